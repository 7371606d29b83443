import PyProof.Rows.All
import Wide.All
import OpenK.AllK
import Wide.FinOn
import Lean
import PyProof.EqAt
import PyProof.EqKinds
import PyProof.TupleCall
import PySem.SetTable
import PySem.SetOps
import PyProof.Rows.SetFrom
import KE.KDictOf
import PyProof.AttrMissHeap
import KE.KDictSum
import KE.KDictLaws
import KE.KDictList
import PyProof.Rows.SeqMore
import PySem.Challenge.RW_tintties_k12_chains
set_option Elab.async false
set_option linter.all false
set_option maxRecDepth 100000
/-! THE HAND LAYER, for ints, bools, texts, own classes, LISTS and tuples (index, slices, in, append, pop ..), calls, loops. Paste it whole ahead of your own text; what your proof does not reach may be deleted. -/
namespace L2
open PySem PySem.Spec PyProof.Rows

/-- a key: an int or a str -/
abbrev Key := Sum Int Str
def keyIs : Key → Value → Bool
  | .inl k, v => Value.isInt k v
  | .inr x, v => Value.isStrOf x v
def keyH (w : World) : Key → Int
  | .inl k => hashInt k
  | .inr x => hashStr w x
theorem keyIs_shape : ∀ {k : Key} {v : Value}, keyIs k v = true → (∃ i t, k = Sum.inl i ∧ v = Value.int i t) ∨ (∃ x t, k = Sum.inr x ∧ v = Value.str x t)
  | .inl i, v, h => by
    obtain ⟨t, e⟩ := Value.isInt_shape (k := i) (v := v) h
    exact .inl ⟨i, t, rfl, e⟩
  | .inr x, v, h => by
    obtain ⟨t, e⟩ := Value.isStrOf_shape (x := x) (v := v) h
    exact .inr ⟨x, t, rfl, e⟩
theorem keyIs_int (i : Int) (t : Tok) : keyIs (.inl i) (.int i t) = true := by simp [keyIs, Value.isInt]
theorem keyIs_str (x : Str) (t : Tok) : keyIs (.inr x) (.str x t) = true := by simp [keyIs, Value.isStrOf]
theorem key_ll (a b : Int) : decide ((Sum.inl a : Key) = Sum.inl b) = (a == b) := by
  by_cases e : a = b
  · subst e; simp
  · have h : ¬ (Sum.inl a : Key) = Sum.inl b := fun q => e (Sum.inl.inj q)
    rw [decide_eq_false h]
    exact (beq_eq_false_iff_ne.mpr e).symm
theorem key_rr (a b : Str) : decide ((Sum.inr a : Key) = Sum.inr b) = decide (a = b) := by
  by_cases e : a = b
  · subst e; simp
  · have h : ¬ (Sum.inr a : Key) = Sum.inr b := fun q => e (Sum.inr.inj q)
    rw [decide_eq_false h, decide_eq_false e]
theorem key_lr (a : Int) (b : Str) : decide ((Sum.inl a : Key) = Sum.inr b) = false := decide_eq_false (fun q => nomatch q)
theorem key_rl (a : Str) (b : Int) : decide ((Sum.inr a : Key) = Sum.inl b) = false := decide_eq_false (fun q => nomatch q)

def mixKind (prog : Program) (w : World) : PySem.KeyKind prog w Key where
  is := keyIs
  hash := keyH w
  inj := fun v a b ha hb => by
    rcases keyIs_shape ha with ⟨i, t, rfl, rfl⟩ | ⟨x, t, rfl, rfl⟩
    · rcases keyIs_shape hb with ⟨j, u, rfl, e⟩ | ⟨y, u, rfl, e⟩
      · injection e with e1 _; rw [e1]
      · exact nomatch e
    · rcases keyIs_shape hb with ⟨j, u, rfl, e⟩ | ⟨y, u, rfl, e⟩
      · exact nomatch e
      · injection e with e1 _; rw [e1]
  byValue := fun k v h => by
    rcases keyIs_shape h with ⟨i, t, rfl, rfl⟩ | ⟨x, t, rfl, rfl⟩ <;> rfl
  pyHash := fun hv h => by
    rcases keyIs_shape hv with ⟨i, t, rfl, rfl⟩ | ⟨x, t, rfl, rfl⟩
    · exact wpAny_pyHash_int h
    · exact wpAny_pyHash_str h
  eqBool := fun hu hv h => by
    rcases keyIs_shape hu with ⟨i, t, rfl, rfl⟩ | ⟨x, t, rfl, rfl⟩
    · rcases keyIs_shape hv with ⟨j, u, rfl, rfl⟩ | ⟨y, u, rfl, rfl⟩
      · rw [key_ll] at h; exact wpAny_eqBool_int h
      · rw [key_lr] at h; exact SeqAt.EqAt.int_str i t y u _ _ _ _ h
    · rcases keyIs_shape hv with ⟨j, u, rfl, rfl⟩ | ⟨y, u, rfl, rfl⟩
      · rw [key_rl] at h; exact SeqAt.EqAt.str_int x t j u _ _ _ _ h
      · rw [key_rr] at h; exact wpAny_eqBool_str h
  «strs» := fun k x t v h => by
    rcases keyIs_shape h with ⟨i, u, rfl, e⟩ | ⟨y, u, rfl, e⟩
    · exact nomatch e
    · injection e with e1 _
      subst e1
      cases v <;> rfl

theorem mixKind_is (prog : Program) (w : World) (k : Key) (v : Value) : (mixKind prog w).is k v = keyIs k v := rfl
theorem mixKind_int (prog : Program) (w : World) (i : Int) (t : Tok) : (mixKind prog w).is (.inl i) (.int i t) = true := keyIs_int i t
theorem mixKind_str (prog : Program) (w : World) (x : Str) (t : Tok) : (mixKind prog w).is (.inr x) (.str x t) = true := keyIs_str x t
end L2

namespace L2
open PySem PySem.Spec PyProof.Rows

/-- a value, without the heap -/
inductive V where
  | non | bl (b : Bool) | int (i : Int) | str (x : Str) | byt (b : Array UInt8) | flt (b : UInt64) | ref (a : Addr) | ty (n : String)
  deriving DecidableEq

def RelV : V → Value → Prop
  | .non, u => u = Value.none
  | .bl b, u => u = Value.bool b
  | .int i, u => ∃ t, u = Value.int i t
  | .str x, u => ∃ t, u = Value.str x t
  | .byt b, u => ∃ t, u = Value.bytes b t
  | .flt b, u => ∃ t, u = Value.float b t
  | .ref a, u => u = Value.ref a
  | .ty n, u => u = Value.type n

abbrev Vals : List V → List Value → Prop := Paired RelV
theorem Vals.length {xs : List V} {us : List Value} (r : Vals xs us) : xs.length = us.length := Paired.length r
theorem Vals.get : ∀ {xs : List V} {us : List Value} {i : Nat} {x : V}, Vals xs us → xs[i]? = some x → ∃ u, us[i]? = some u ∧ RelV x u
  | _, _, _, _, .nil, e => by simp at e
  | _, _, 0, _, .cons r _, e => by simp at e; subst e; exact ⟨_, rfl, r⟩
  | _, _, i + 1, x, .cons _ t, e => by
    obtain ⟨u, h1, h2⟩ := Vals.get (i := i) (x := x) t (by simpa using e)
    exact ⟨u, by simpa using h1, h2⟩
theorem Vals.set {x : V} {u : Value} (r : RelV x u) : ∀ {xs : List V} {us : List Value} (i : Nat), Vals xs us → Vals (xs.set i x) (us.set i u)
  | _, _, _, .nil => .nil
  | _, _, 0, .cons _ t => .cons r t
  | _, _, i + 1, .cons q t => .cons q (Vals.set r i t)
theorem Vals.append : ∀ {xs ys : List V} {us ws : List Value}, Vals xs us → Vals ys ws → Vals (xs ++ ys) (us ++ ws)
  | _, _, _, _, .nil, s => s
  | _, _, _, _, .cons r t, s => .cons r (Vals.append t s)
theorem Vals.take : ∀ {xs : List V} {us : List Value} (n : Nat), Vals xs us → Vals (xs.take n) (us.take n)
  | _, _, 0, _ => .nil
  | _, _, _ + 1, .nil => .nil
  | _, _, n + 1, .cons r t => .cons r (Vals.take n t)
theorem Vals.drop : ∀ {xs : List V} {us : List Value} (n : Nat), Vals xs us → Vals (xs.drop n) (us.drop n)
  | _, _, 0, r => r
  | _, _, _ + 1, .nil => .nil
  | _, _, n + 1, .cons _ t => Vals.drop n t
theorem Vals.none_of : ∀ {xs : List V} {us : List Value} {i : Nat}, Vals xs us → xs[i]? = none → us[i]? = none := fun {xs us i} r e => by
  have h1 := r.length
  have h2 : xs.length ≤ i := List.getElem?_eq_none_iff.mp e
  exact List.getElem?_eq_none_iff.mpr (by omega)

def RelO : Option V → Option Value → Prop
  | some v, some u => RelV v u
  | none, none => True
  | _, _ => False
def KV {κ : Type} : List (κ × V) → List (κ × Value) → Prop := Paired fun (p : κ × V) (q : κ × Value) => p.1 = q.1 ∧ RelV p.2 q.2

/-- a key of a dict (00_mix): an int or a text -/
def kV : Key → V
  | .inl i => .int i
  | .inr x => .str x

/-- what stands at a tracked address -/
inductive HO where
  /-- a list -/
  | lst (xs : List V)
  /-- a tuple (never changes) -/
  | tup (xs : List V)
  /-- a dict whose keys are ints and texts; one whose keys are tuples of ints and texts (the empty one is both) -/
  | dK (kvs : List (Key × V)) | dT (kvs : List (List Key × V))
  /-- a set of ints: its members, its size -/
  | set (S : Int → Bool) (n : Nat)
  /-- an instance of the class at C, its dict at dx, its attributes -/
  | ins (C dx : Addr) (fs : List (Str × V))
  /-- the dict of the instance at x -/
  | own (x : Addr)
  /-- the dict of an exception -/
  | xd (fs : List (Str × V))
  /-- a bound method, f of x -/
  | met (f x : Addr)
  /-- a range object lo, lo + 1, .. below hi -/
  | rng (lo hi : Int)
  /-- a thing that is known to the object (the script; a dict while a loop walks it): read, never written while it is so -/
  | frz (o : Obj) (u : HO)
  /-- a code object's table -/
  | tbl (ps : Array Value)
  /-- any other thing, by what is true of its one object (a def of one's own: SetO a S n := HO.ext fun h => ..) -/
  | ext (φ : Heap → Prop)

abbrev Hp := Addr → Option HO
def upd (H : Hp) (a : Addr) (o : HO) : Hp := fun b => if b = a then some o else H b
theorem upd_same {H : Hp} {a : Addr} {o : HO} : upd H a o a = some o := by unfold upd; rw [if_pos rfl]
theorem upd_ne {H : Hp} {a b : Addr} {o : HO} (h : b ≠ a) : upd H a o b = H b := by unfold upd; rw [if_neg h]
theorem upd_upd {H : Hp} {a : Addr} {o u : HO} : upd (upd H a o) a u = upd H a u := by
  funext b; unfold upd; split <;> rfl
/-- two objects of different content stand apart -/
theorem ne_of {H : Hp} {a b : Addr} {o u : HO} (h : H a = some o) (h' : H b = some u) (d : o ≠ u) : a ≠ b := by
  intro e; subst e; rw [h] at h'; exact d (Option.some.inj h')
theorem ne_of_none {H : Hp} {a b : Addr} {o : HO} (h : H a = some o) (h' : H b = none) : a ≠ b := by
  intro e; subst e; rw [h] at h'; cases h'

section
variable (P : Program) (w : World)
def ObjOk (H : Hp) (h : Heap) (a : Addr) : HO → Prop
  | .lst xs => xs.length ≤ sizeLine ∧ ∃ (its : List Value) (n : Nat), Vals xs its ∧ h.get? a = some { cls := .type "list", data := .seq its.toArray n }
  | .tup xs => xs.length ≤ sizeLine ∧ ∃ its : List Value, Vals xs its ∧ IsTup h a its.toArray
  | .dK kvs => kvs.length ≤ sizeLine ∧ (a == sysModules) = false ∧ ∃ vs, KV kvs vs ∧ h.DictOf (mixKind P w) a vs
  | .dT kvs => kvs.length ≤ sizeLine ∧ (a == sysModules) = false ∧ ∃ xs : List (List Key × Addr × Value),
      Paired (fun (p : List Key × V) (q : List Key × Addr × Value) => p.1 = q.1 ∧ H q.2.1 = some (.tup (p.1.map kV)) ∧ RelV p.2 q.2.2) kvs xs ∧
      ∃ o es ep, h.get? a = some o ∧ o.ExactDict ∧ o.data = .dict es ep ∧ es.toList = xs.map (entryOfKey (tupleKind (mixKind P w))) ∧ (xs.map (·.1)).Nodup
  | .set S n => h.SetOf (intKind P w) a S n
  | .ins C dx fs => H dx = some (.own a) ∧ fs.length ≤ 1000 ∧ dx ≠ a ∧ h.get? a = some (PySem.W.instObj C dx) ∧
      ∃ mA, h.Ns1 dx mA ∧ (∀ f, RelO (fs.lookup f) (mA f)) ∧ PySem.Within mA (fs.map (·.1))
  | .own _ => ∃ o, h.get? a = some o
  | .xd fs => ∃ mA, h.Ns1 a mA ∧ ∀ f, RelO (fs.lookup f) (mA f)
  | .rng lo hi => ∃ t u v, h.get? a = some { cls := .type "range", data := .fields #[.int lo t, .int hi u, .int 1 v] }
  | .frz o u => h.get? a = some o ∧ ObjOk H h a u
  | .tbl ps => h.get? a = some { cls := .none, data := .fields ps }
  | .met f x => h.get? a = some (PySem.W.methodObj (.ref f) (.ref x))
  | .ext φ => φ h ∧ (∃ o, h.get? a = some o) ∧ ∀ h1 h2 : Heap, φ h1 → (∀ o, h1.get? a = some o → h2.get? a = some o) → φ h2
/-- the abstract heap is held -/
def HOk (H : Hp) (h : Heap) : Prop := ∀ a o, H a = some o → ObjOk P w H h a o
end

section
variable {P : Program} {w : World} {H H' : Hp} {h h' : Heap} {a : Addr} {o : HO}
theorem ObjOk.lt (x : ObjOk P w H h a o) : a < h.objs.size := by
  cases o with
  | lst xs => obtain ⟨_, _, _, _, e⟩ := x; exact Heap.lt_size e
  | tup xs => obtain ⟨_, _, _, p⟩ := x; exact p.lt
  | dK kvs => obtain ⟨_, _, _, _, o, _, _, e, _⟩ := x; exact Heap.lt_size e
  | dT kvs => obtain ⟨_, _, _, _, o, _, _, e, _⟩ := x; exact Heap.lt_size e
  | set S n => obtain ⟨o, _, _, _, e, _⟩ := x; exact Heap.lt_size e
  | ins C dx fs => obtain ⟨_, _, _, e, _⟩ := x; exact Heap.lt_size e
  | own y => obtain ⟨_, e⟩ := x; exact Heap.lt_size e
  | xd fs => obtain ⟨_, ⟨_, _, _, e, _⟩, _⟩ := x; exact Heap.lt_size e
  | rng lo hi => obtain ⟨_, _, _, e⟩ := x; exact Heap.lt_size e
  | frz ob u => obtain ⟨e, _⟩ := x; exact Heap.lt_size e
  | tbl ps => exact Heap.lt_size (show h.get? a = some _ from x)
  | met f y => exact Heap.lt_size (show h.get? a = some _ from x)
  | ext φ => obtain ⟨_, ⟨_, e⟩, _⟩ := x; exact Heap.lt_size e
theorem Paired.mapP {α β : Type} {F G : α → β → Prop} : ∀ {l₁ : List α} {l₂ : List β}, Paired F l₁ l₂ → (∀ a b, F a b → G a b) → Paired G l₁ l₂
  | _, _, .nil, _ => .nil
  | _, _, .cons r t, f => .cons (f _ _ r) (Paired.mapP t f)
theorem Paired.imp' {α β : Type} {F G : α → β → Prop} (f : ∀ a b, F a b → G a b) {l₁ : List α} {l₂ : List β} (r : Paired F l₁ l₂) : Paired G l₁ l₂ := Paired.mapP r f
/-- what an object's description leans on: its own object, its own dict, the tuples -/
theorem ObjOk.stay (x : ObjOk P w H h a o) (k : ∀ b u, (b = a ∨ H b = some (.own a)) → h.get? b = some u → h'.get? b = some u)
    (ho : ∀ b, H b = some (.own a) → H' b = some (.own a)) (ht : ∀ b xs, H b = some (.tup xs) → H' b = some (.tup xs)) : ObjOk P w H' h' a o := by
  induction o with
  | lst xs => obtain ⟨z, its, n, r, e⟩ := x; exact ⟨z, its, n, r, k _ _ (.inl rfl) e⟩
  | tup xs => obtain ⟨z, its, r, ob, e, c⟩ := x; exact ⟨z, its, r, ob, k _ _ (.inl rfl) e, c⟩
  | dK kvs => obtain ⟨z, y, vs, r, ob, es, ep, e, c⟩ := x; exact ⟨z, y, vs, r, ob, es, ep, k _ _ (.inl rfl) e, c⟩
  | dT kvs =>
    obtain ⟨z, y, xs, r, ob, es, ep, e, c⟩ := x
    exact ⟨z, y, xs, Paired.mapP r fun p q z => ⟨z.1, ht _ _ z.2.1, z.2.2⟩, ob, es, ep, k _ _ (.inl rfl) e, c⟩
  | set S n => obtain ⟨ob, es, ep, t, e, c⟩ := x; exact ⟨ob, es, ep, t, k _ _ (.inl rfl) e, c⟩
  | ins C dx fs =>
    obtain ⟨d, z, ne, e, mA, ⟨od, es, ep, e2, c⟩, r⟩ := x
    exact ⟨ho _ d, z, ne, k _ _ (.inl rfl) e, mA, ⟨od, es, ep, k _ _ (.inr d) e2, c⟩, r⟩
  | own y => obtain ⟨ob, e⟩ := x; exact ⟨ob, k _ _ (.inl rfl) e⟩
  | xd fs => obtain ⟨mA, ⟨od, es, ep, e, c⟩, r⟩ := x; exact ⟨mA, ⟨od, es, ep, k _ _ (.inl rfl) e, c⟩, r⟩
  | rng lo hi => obtain ⟨t, u, v, e⟩ := x; exact ⟨t, u, v, k _ _ (.inl rfl) e⟩
  | frz ob u ih => obtain ⟨e, q⟩ := x; exact ⟨k _ _ (.inl rfl) e, ih q⟩
  | tbl ps =>
    have e : h.get? a = some { cls := .none, data := .fields ps } := x
    show h'.get? a = some { cls := .none, data := .fields ps }
    exact k a _ (.inl rfl) e
  | met f y =>
    have e : h.get? a = some (PySem.W.methodObj (.ref f) (.ref y)) := x
    show h'.get? a = some (PySem.W.methodObj (.ref f) (.ref y))
    exact k a _ (.inl rfl) e
  | ext φ => obtain ⟨p, ⟨o, e⟩, st⟩ := x; exact ⟨st _ _ p fun o q => k _ _ (.inl rfl) q, ⟨o, k _ _ (.inl rfl) e⟩, st⟩
theorem HOk.lt (x : HOk P w H h) (e : H a = some o) : a < h.objs.size := (x a o e).lt
theorem HOk.fresh (x : HOk P w H h) (e : h.objs.size ≤ a) : H a = none := by
  cases q : H a with
  | none => rfl
  | some u => exact absurd (Nat.lt_of_lt_of_le (x.lt q) e) (Nat.lt_irrefl _)
/-- every object of the heap is kept -/
theorem HOk.kept (x : HOk P w H h) (k : ∀ b u, h.get? b = some u → h'.get? b = some u) : HOk P w H h' := fun a o e =>
  (x a o e).stay (fun b u _ q => k b u q) (fun _ q => q) fun _ _ q => q
/-- a new object is laid and tracked -/
theorem HOk.laid (x : HOk P w H h) (k : ∀ b u, h.get? b = some u → h'.get? b = some u) (hp : h.objs.size ≤ a) (new : ObjOk P w (upd H a o) h' a o) : HOk P w (upd H a o) h' := fun b u e => by
  have hn := x.fresh hp
  by_cases hb : b = a
  · subst hb; rw [upd_same] at e; cases e; exact new
  · rw [upd_ne hb] at e
    exact (x b u e).stay (fun c v _ q => k c v q) (fun c q => by rw [upd_ne (ne_of_none q hn)]; exact q) fun c xs q => by rw [upd_ne (ne_of_none q hn)]; exact q
end

/-- what may be read as u: it is u, or a known u -/
def Rd (H : Hp) (a : Addr) (u : HO) : Prop := H a = some u ∨ ∃ o, H a = some (.frz o u)
theorem Rd.of {H : Hp} {a : Addr} {u : HO} (h : H a = some u) : Rd H a u := .inl h
theorem Rd.ok {P : Program} {w : World} {H : Hp} {h : Heap} {a : Addr} {u : HO} (r : Rd H a u) (x : HOk P w H h) : ObjOk P w H h a u := by
  rcases r with r | ⟨o, r⟩
  · exact x a u r
  · obtain ⟨_, q⟩ := x a _ r
    exact q
/-- what may be written -/
def Mut : Option HO → Prop
  | some (.lst _) => True
  | some (.dK _) => True
  | some (.dT _) => True
  | some (.set _ _) => True
  | some (.ins _ _ _) => True
  | some (.ext _) => True
  | _ => False
section
variable {P : Program} {w : World} {H : Hp} {h h' : Heap} {x e : Addr} {o' : HO}
/-- the object at e is changed: x itself, or the dict of the instance x -/
theorem HOk.write (ok : HOk P w H h) (mu : Mut (H x)) (he : e = x ∨ H e = some (.own x)) (k : ∀ b u, b ≠ e → h.get? b = some u → h'.get? b = some u) (heo : ∃ u, h'.get? e = some u)
    (new : ObjOk P w (upd H x o') h' x o') : HOk P w (upd H x o') h' := fun b u q => by
  have nown : ∀ c y, H c = some (.own y) → c ≠ x := fun c y r z => by subst z; rw [r] at mu; exact mu
  have ntup : ∀ c xs, H c = some (.tup xs) → c ≠ x := fun c xs r z => by subst z; rw [r] at mu; exact mu
  by_cases hb : b = x
  · subst hb; rw [upd_same] at q; cases q; exact new
  · rw [upd_ne hb] at q
    by_cases hbe : b = e
    · have q' : H b = some (.own x) := by
        rcases he with z | z
        · exact absurd (hbe.trans z) hb
        · rw [hbe]; exact z
      rw [q] at q'; cases q'
      obtain ⟨v, hv⟩ := heo
      exact ⟨v, by rw [hbe]; exact hv⟩
    · refine (ok b u q).stay (fun c v hc r => k c v ?_ r) (fun c r => by rw [upd_ne (nown c b r)]; exact r) fun c xs r => by rw [upd_ne (ntup c xs r)]; exact r
      rcases hc with rfl | hc
      · exact hbe
      · rintro rfl
        rcases he with z | z
        · exact nown c b hc z
        · rw [hc] at z; cases z; exact hb rfl
end

/-! ### kept unless tracked; of the frames at fs (the callers') the slots may change (an exception that passes writes there); of the records at ex (iterators) nothing is said -/
structure Un (fs ex : List Addr) (H H' : Hp) (h h' : Heap) : Prop where
  keep : ∀ b o, h.get? b = some o → H b = none → b ∉ fs → b ∉ ex → h'.get? b = some o
  slot : ∀ b o, h.get? b = some o → H b = none → b ∈ fs → b ∉ ex → ∃ sl, h'.get? b = some { o with slots := sl }
  free : ∀ b o, h.get? b = some o → H b = none → b ∉ ex → H' b = none
  there : ∀ b o, h.get? b = some o → b ∉ ex → ∃ o', h'.get? b = some o'
  tups : ∀ b xs, H b = some (.tup xs) → H' b = some (.tup xs)
  frzs : ∀ b o u, H b = some (.frz o u) → H' b = some (.frz o u)
  tbls : ∀ b ps, H b = some (.tbl ps) → ∃ more, H' b = some (.tbl (ps ++ more))
section
variable {fs fs' ex ex' : List Addr} {H H1 H2 : Hp} {h h1 h2 h' : Heap} {a x e : Addr} {o : HO}
theorem Un.any (u : Un fs ex H H1 h h1) {b : Addr} {ob : Obj} (q : h.get? b = some ob) (n : H b = none) (hx : b ∉ ex) : ∃ sl, h1.get? b = some { ob with slots := sl } := by
  by_cases hb : b ∈ fs
  · exact u.slot b ob q n hb hx
  · exact ⟨ob.slots, u.keep b ob q n hb hx⟩
theorem Un.trans (a : Un fs ex H H1 h h1) (b : Un fs ex H1 H2 h1 h2) : Un fs ex H H2 h h2 where
  keep := fun c ob q n hc hx => b.keep c ob (a.keep c ob q n hc hx) (a.free c ob q n hx) hc hx
  slot := fun c ob q n hc hx => by
    obtain ⟨sl, e1⟩ := a.slot c ob q n hc hx
    obtain ⟨sl', e2⟩ := b.slot c _ e1 (a.free c ob q n hx) hc hx
    exact ⟨sl', e2⟩
  free := fun c ob q n hx => by
    obtain ⟨o', e1⟩ := a.there c ob q hx
    exact b.free c o' e1 (a.free c ob q n hx) hx
  there := fun c ob q hx => by
    obtain ⟨o', e1⟩ := a.there c ob q hx
    exact b.there c o' e1 hx
  tups := fun c xs q => b.tups c xs (a.tups c xs q)
  frzs := fun c ob xs q => b.frzs c ob xs (a.frzs c ob xs q)
  tbls := fun c ps q => by
    obtain ⟨m1, e1⟩ := a.tbls c ps q
    obtain ⟨m2, e2⟩ := b.tbls c _ e1
    exact ⟨m1 ++ m2, by rw [e2, Array.append_assoc]⟩
theorem Un.kept (k : ∀ b u, h.get? b = some u → h'.get? b = some u) : Un fs ex H H h h' :=
  ⟨fun b ob q _ _ _ => k b ob q, fun b ob q _ _ _ => ⟨ob.slots, k b ob q⟩, fun _ _ _ n _ => n, fun b ob q _ => ⟨ob, k b ob q⟩, fun _ _ q => q, fun _ _ _ q => q, fun _ ps q => ⟨#[], by rw [q]; simp⟩⟩
theorem Un.refl : Un fs ex H H h h := Un.kept fun _ _ q => q
theorem Un.laid (k : ∀ b u, h.get? b = some u → h'.get? b = some u) (hp : h.objs.size ≤ a) (hn : H a = none) : Un fs ex H (upd H a o) h h' where
  keep := fun b u q _ _ _ => k b u q
  slot := fun b u q _ _ _ => ⟨u.slots, k b u q⟩
  free := fun b u q n _ => by rw [upd_ne (Nat.ne_of_lt (Nat.lt_of_lt_of_le (Heap.lt_size q) hp))]; exact n
  there := fun b u q _ => ⟨u, k b u q⟩
  tups := fun b xs q => by rw [upd_ne (ne_of_none q hn)]; exact q
  frzs := fun b u xs q => by rw [upd_ne (ne_of_none q hn)]; exact q
  tbls := fun b ps q => ⟨#[], by rw [upd_ne (ne_of_none q hn), q]; simp⟩
theorem Un.write (mu : Mut (H x)) (he : e = x ∨ H e = some (.own x)) (k : ∀ b u, b ≠ e → h.get? b = some u → h'.get? b = some u) (heo : ∃ u, h'.get? e = some u) : Un fs ex H (upd H x o) h h' := by
  have hx : ∀ b, H b = none → b ≠ x := fun b n z => by subst z; rw [n] at mu; exact mu
  have hb : ∀ b, H b = none → b ≠ e := fun b n z => by
    subst z
    rcases he with r | r
    · exact hx b n r
    · rw [n] at r; cases r
  have hm : ∀ b u, H b = some u → ¬ Mut (some u) → b ≠ x := fun b u q nm z => by subst z; rw [q] at mu; exact nm mu
  refine ⟨fun b u q n _ _ => k b u (hb b n) q, fun b u q n _ _ => ⟨u.slots, k b u (hb b n) q⟩, fun b u q n _ => by rw [upd_ne (hx b n)]; exact n, fun b u q _ => ?_,
    fun b xs q => by rw [upd_ne (hm b _ q fun z => z)]; exact q, fun b u xs q => by rw [upd_ne (hm b _ q fun z => z)]; exact q, fun b ps q => ⟨#[], by rw [upd_ne (hm b _ q fun z => z), q]; simp⟩⟩
  by_cases hbe : b = e
  · subst hbe; exact heo
  · exact ⟨u, k b u hbe q⟩
theorem Un.mono (u : Un fs ex H H1 h h1) (hs : ∀ b ∈ fs, b ∈ fs') (hx : ∀ b ∈ ex, b ∈ ex') : Un fs' ex' H H1 h h1 :=
  ⟨fun b ob q n hb he => u.keep b ob q n (fun z => hb (hs b z)) fun z => he (hx b z), fun _ _ q n _ he => u.any q n fun z => he (hx _ z), fun b ob q n he => u.free b ob q n fun z => he (hx b z), fun b ob q he => u.there b ob q fun z => he (hx b z), u.tups, u.frzs, u.tbls⟩
end

/-! ### the heap without what is tracked -/
def trk (h : Heap) (H : Hp) : List Addr := (List.range h.objs.size).filter fun a => (H a).isSome
def hidT (h : Heap) (H : Hp) : Heap := PySem.W.hideAll h (trk h H)
theorem hidT_size (h : Heap) (H : Hp) : (hidT h H).objs.size = h.objs.size := PySem.W.hideAll_size _ _
theorem hidT_get {h : Heap} {H : Hp} {b : Addr} {o : Obj} (e : h.get? b = some o) (n : H b = none) : (hidT h H).get? b = some o :=
  PySem.W.hideAll_get _ e fun hm => by
    have q : (H b).isSome = true := (List.mem_filter.mp hm).2
    rw [n] at q; simp at q
theorem of_hidT {h : Heap} {H : Hp} {b : Addr} {o : Obj} (e : (hidT h H).get? b = some o) : h.get? b = some o ∧ H b = none := by
  have e' : h.get? b = some o := PySem.W.of_hideAll (trk h H) e
  refine ⟨e', ?_⟩
  cases q : H b with
  | none => rfl
  | some x =>
    have hm : b ∈ trk h H := List.mem_filter.mpr ⟨List.mem_range.mpr (Heap.lt_size e'), by simp [q]⟩
    have z : (hidT h H).get? b = none := PySem.W.hideAll_none (trk h H) hm
    rw [z] at e; cases e

/-! ### OpenK's ledger, filled with every new object but one -/
def allNews (g h : Heap) (L : Addr) : List (Addr × Obj) := (List.range h.objs.size).filterMap fun a => if a = L ∨ (g.get? a).isSome = true then none else (h.get? a).map fun o => (a, o)
theorem mem_allNews {g h : Heap} {L a : Addr} {o : Obj} (h1 : a ≠ L) (h2 : g.get? a = none) (h3 : h.get? a = some o) : (a, o) ∈ allNews g h L :=
  List.mem_filterMap.mpr ⟨a, List.mem_range.mpr (Heap.lt_size h3), by simp [h1, h2, h3]⟩
theorem of_mem_allNews {g h : Heap} {L : Addr} {p : Addr × Obj} (hp : p ∈ allNews g h L) : p.1 ≠ L ∧ g.get? p.1 = none ∧ h.get? p.1 = some p.2 := by
  obtain ⟨b, _, e⟩ := List.mem_filterMap.mp hp
  split at e
  · cases e
  · rename_i hn
    cases q : h.get? b with
    | none => rw [q] at e; simp at e
    | some u =>
      rw [q] at e
      simp only [Option.map_some, Option.some.injEq] at e
      subst e
      refine ⟨fun z => hn (.inl z), ?_, q⟩
      show g.get? b = none
      cases r : g.get? b with
      | none => rfl
      | some v => exact (hn (.inr (by simp [r]))).elim
def rest (g h : Heap) (L d : Addr) : List (Addr × Obj) := (allNews g h L).filter fun p => decide (p.1 ≠ d)
theorem rest_ne {g h : Heap} {L d : Addr} : ∀ p ∈ rest g h L d, p.1 ≠ d := fun p hp => of_decide_eq_true (List.mem_filter.mp hp).2
theorem mem_rest {g h : Heap} {L d a : Addr} {o : Obj} (h1 : a ≠ L) (h2 : g.get? a = none) (h3 : h.get? a = some o) (h4 : a ≠ d) : (a, o) ∈ rest g h L d :=
  List.mem_filter.mpr ⟨mem_allNews h1 h2 h3, decide_eq_true h4⟩
theorem news_all {g h : Heap} {L : Addr} : News g L h (allNews g h L) := fun p hp => let ⟨a, b, c⟩ := of_mem_allNews hp; ⟨c, a, b⟩
theorem news_at {g h : Heap} {L d : Addr} {o : Obj} (h1 : d ≠ L) (h2 : g.get? d = none) (h3 : h.get? d = some o) : News g L h ((d, o) :: rest g h L d) := fun p hp => by
  rcases List.mem_cons.mp hp with rfl | hp
  · exact ⟨h3, h1, h2⟩
  · exact news_all p (List.mem_filter.mp hp).1
/-- behind a rule that changed d alone: all else but the frame is kept -/
theorem kept_of_news {g h h' : Heap} {L d : Addr} {m : Str → Option Value} (k : ∀ b o, g.get? b = some o → h.get? b = some o) (F : Fr g L h' m) (N : News g L h' (rest g h L d)) :
    ∀ b o, b ≠ L → b ≠ d → h.get? b = some o → h'.get? b = some o := fun b o h1 h2 e => by
  cases q : g.get? b with
  | some u =>
    have := k b u q
    rw [e] at this; cases this
    exact F.keep b _ q
  | none => exact (N (b, o) (mem_rest h1 q e h2)).1
end L2

namespace L2
open PySem PySem.Spec PyProof.Rows

/-- the module's facts, over the base: the heap at the law's entry without what is tracked there -/
structure Mod (K : PySem.W.Frag) (mg : Str → Option Value) (base : Heap) : Prop where
  kin : K.In base
  glob : base.Ns mainGlobals mg
  blt : ∃ mb, base.Ns builtinsNs mb ∧ ∀ x : Str, x ≠ "__name__" → mb x = bootBuiltins x
  nolimit : base.NoLimit

/-- the context: a def's body (or a comprehension's block) running. base: fixed through the whole law; s₀, H₀: the entry; outer: the frames whose slots others may change (a def's callers); stack: all frames that run;
   ex: iterators that were made ahead of the entry and are walked here (a comprehension's); fn: the names whose cells were made at the entry (a def: all; a comprehension's block: its own); calm: not within an except suite; pn: pins that every state bears; xe: what is wanted of an exception that leaves the code -/
structure Cx where
  prog : Program
  w : World
  K : PySem.W.Frag
  mg : Str → Option Value
  base : Heap
  A : Around
  N : List Str
  s₀ : Shared
  H₀ : Hp
  env : Env
  outer : List Env
  stack : List Env
  ex : List Addr
  fn : Str → Bool
  calm : Bool
  pn : List (Addr × Obj)
  xe : Value → Shared → Prop
/-- the callers' frames -/
def frs (l : List Env) : List Addr := l.filterMap (·.frame)
abbrev Cx.fs (X : Cx) : List Addr := frs X.outer

def Vis (sc : Scope) (x : Str) : Prop := sc.names.lookup x = some .local ∨ sc.names.lookup x = some .cell ∨ sc.names.lookup x = some .free
def Loc (sc : Scope) (x : Str) : Prop := sc.names.lookup x = some .local ∨ sc.names.lookup x = some .cell
def Look (env : Env) (h : Heap) (m : Str → Option Value) (x : Str) (u : Value) : Prop :=
  (env.kindOf x = some .local ∧ m x = some u) ∨ ((env.kindOf x = some .cell ∨ env.kindOf x = some .free) ∧ ∃ c, env.cells.lookup x = some c ∧ h.IsCell c (some u))

structure Cx.Ok (X : Cx) : Prop where
  mod : Mod X.K X.mg X.base
  kind : X.env.scope.kind = .function
  glob : X.env.globals = mainGlobals
  blt : X.env.builtins = builtinsNs
  above : X.s₀.heap.objs.size ≤ X.env.locals
  inj : ∀ x y c, X.env.cells.lookup x = some c → X.env.cells.lookup y = some c → x = y
  has : ∀ x, (X.env.kindOf x = some .cell ∨ X.env.kindOf x = some .free) → ∃ c, X.env.cells.lookup x = some c
  cab : ∀ x c, X.fn x = true → X.env.cells.lookup x = some c → X.s₀.heap.objs.size ≤ c
  hd : X.calm = true → X.A.handled = none
  frames : X.A.frames = some X.stack
  stk : X.stack = X.outer ∨ (X.stack = X.env :: X.outer ∧ X.env.frame = some X.env.locals)
  exf : ∀ b ∈ X.ex, b ≠ X.env.locals ∧ ∀ x c, X.env.cells.lookup x = some c → c ≠ b
  bs : ∀ b o, X.base.get? b = some o → X.s₀.heap.get? b = some o ∧ X.H₀ b = none
  bsz : X.base.objs.size ≤ X.s₀.heap.objs.size
  noex : ∀ b o, X.base.get? b = some o → b ∉ X.ex
  exfs : ∀ b ∈ X.ex, b ∉ X.fs
  funs : X.s₀.heap.FunFrames X.base X.outer
  frf : ∀ b ∈ X.fs, X.H₀ b = none

structure Inv (X : Cx) (pins : List (Addr × Obj)) (σ : List (Option V)) (H : Hp) (s : Shared) : Prop where
  ok : X.Ok
  os : s.os = X.s₀.os
  bare : AllBare s.gens
  base : Un X.fs X.ex X.H₀ H X.s₀.heap s.heap
  loc : ∃ m, s.heap.Ns X.env.locals m ∧ ∀ (i : Nat) (x : Str) (v : V), X.N[i]? = some x → σ[i]? = some (some v) → Vis X.env.scope x → ∃ u, RelV v u ∧ Look X.env s.heap m x u
  cell : ∀ x c, X.env.cells.lookup x = some c → ∃ v, s.heap.IsCell c v
  free : H X.env.locals = none
  freeC : ∀ x c, X.env.cells.lookup x = some c → H c = none
  pin : ∀ p ∈ X.pn ++ pins, s.heap.get? p.1 = some p.2 ∧ H p.1 = none ∧ p.1 ≠ X.env.locals ∧ p.1 ∉ X.fs ∧ ∀ v, p.2.data ≠ .cell v
  hok : HOk X.prog X.w H s.heap
  len : σ.length = X.N.length

section
variable {X : Cx} {pins : List (Addr × Obj)} {σ : List (Option V)} {H H' : Hp} {s : Shared} {h' : Heap}

theorem Cx.Ok.nofr (ok : X.Ok) {b : Addr} {o : Obj} (e : X.base.get? b = some o) : b ∉ X.fs := fun hb => by
  have := (ok.funs.mem hb).1
  rw [e] at this; cases this
theorem Inv.bs (I : Inv X pins σ H s) : ∀ b o, X.base.get? b = some o → s.heap.get? b = some o ∧ H b = none := fun b o e =>
  ⟨I.base.keep b o (I.ok.bs b o e).1 (I.ok.bs b o e).2 (I.ok.nofr e) (I.ok.noex b o e), I.base.free b o (I.ok.bs b o e).1 (I.ok.bs b o e).2 (I.ok.noex b o e)⟩
theorem Inv.bk (I : Inv X pins σ H s) : ∀ b o, X.base.get? b = some o → s.heap.get? b = some o := fun b o e => (I.bs b o e).1
theorem Inv.mod (I : Inv X pins σ H s) : Mod X.K X.mg X.base := I.ok.mod
theorem Inv.kIn (I : Inv X pins σ H s) : X.K.In s.heap := I.ok.mod.kin.keeps I.bk
theorem Inv.nolimit (I : Inv X pins σ H s) : s.heap.NoLimit := I.ok.mod.nolimit.keeps I.bk
/-- the frame over the base: for OpenK's rules (K.In X.base is I.mod.kin) -/
theorem Inv.fr (I : Inv X pins σ H s) : ∃ m, Fr X.base X.env.locals s.heap m :=
  let ⟨m, hn, _⟩ := I.loc
  ⟨m, hn, I.bk, Nat.le_trans I.ok.bsz I.ok.above⟩
theorem Inv.lt (I : Inv X pins σ H s) : X.env.locals < s.heap.objs.size := let ⟨_, hn, _⟩ := I.loc; hn.lt
theorem Inv.sz (I : Inv X pins σ H s) : X.s₀.heap.objs.size ≤ s.heap.objs.size := Nat.le_trans I.ok.above (Nat.le_of_lt I.lt)
theorem Inv.nofs (I : Inv X pins σ H s) {a : Addr} (h : s.heap.objs.size ≤ a) : a ∉ X.fs := fun hb => by
  obtain ⟨_, o, ho, _⟩ := I.ok.funs.mem hb
  exact absurd (Nat.lt_of_lt_of_le (Heap.lt_size ho) (Nat.le_trans I.sz h)) (Nat.lt_irrefl _)
theorem Inv.cne (I : Inv X pins σ H s) : ∀ x c, X.env.cells.lookup x = some c → c ≠ X.env.locals := fun x c e z => by
  obtain ⟨v, o, ho, hd⟩ := I.cell x c e
  obtain ⟨m, ⟨o', es, ep, ho', hd', _⟩, _⟩ := I.loc
  rw [z, ho'] at ho; cases ho; rw [hd'] at hd; cases hd
theorem Inv.funs (I : Inv X pins σ H s) : s.heap.FunFrames X.base X.outer := by
  have all : ∀ (l : List Env), (∀ b ∈ frs l, b ∈ X.fs) → X.s₀.heap.FunFrames X.base l → s.heap.FunFrames X.base l := by
    intro l
    induction l with
    | nil => intro _ _; trivial
    | cons env r ih =>
      intro hs hl
      obtain ⟨hk, ⟨L, o, hf, hn, ho, hd⟩, hr⟩ := hl
      have hL : L ∈ X.fs := hs L (by unfold frs; rw [List.filterMap_cons, hf]; exact List.mem_cons_self)
      obtain ⟨sl, e⟩ := I.base.slot L o ho (I.ok.frf L hL) hL fun z => I.ok.exfs L z hL
      exact ⟨hk, ⟨L, _, hf, hn, e, hd⟩, ih (fun b hb => hs b (by unfold frs; rw [List.filterMap_cons, hf]; exact List.mem_cons_of_mem _ hb)) hr⟩
  exact all X.outer (fun _ hb => hb) I.ok.funs

/-- the frames that run, for a call -/
theorem Inv.stack (I : Inv X pins σ H s) : s.heap.FunFrames X.base X.stack := by
  rcases I.ok.stk with e | ⟨e, hf⟩
  · rw [e]; exact I.funs
  · rw [e]
    obtain ⟨m, hn, _⟩ := I.loc
    refine .cons (by rw [I.ok.kind]; decide) hf hn ?_ I.funs
    exact Heap.get?_none_of_le (Nat.le_trans I.ok.bsz I.ok.above)
theorem Inv.stkSub (I : Inv X pins σ H s) : ∀ b ∈ frs X.stack, b ∈ X.env.locals :: X.fs := fun b hb => by
  rcases I.ok.stk with e | ⟨e, hf⟩
  · rw [e] at hb; exact List.mem_cons_of_mem _ hb
  · rw [e] at hb
    unfold frs at hb
    rw [List.filterMap_cons, hf] at hb
    exact hb
theorem Inv.stkFree (I : Inv X pins σ H s) : ∀ b ∈ frs X.stack, H b = none := fun b hb => by
  rcases List.mem_cons.mp (I.stkSub b hb) with e | hb
  · rw [e]; exact I.free
  · obtain ⟨_, o, ho, _⟩ := I.ok.funs.mem hb
    exact I.base.free b o ho (I.ok.frf b hb) fun z => I.ok.exfs b z hb

/-- THE STEP: the untracked objects but the frame and the records at ch are kept (the callers' frames up to slots), the frame's map is kept, the new abstract heap is held -/
theorem Inv.step {g' : Array GenState} {t' : Nat} {d' : Drawn} {ch : List Addr} (I : Inv X pins σ H s)
    (hch : ∀ b ∈ ch, (b ∈ X.ex ∨ X.s₀.heap.objs.size ≤ b) ∧ b ≠ X.env.locals ∧ (∀ x c, X.env.cells.lookup x = some c → c ≠ b) ∧ ∀ p ∈ X.pn ++ pins, p.1 ≠ b)
    (keep : ∀ b o, b ≠ X.env.locals → b ∉ X.fs → b ∉ ch → s.heap.get? b = some o → H b = none → h'.get? b = some o)
    (slot : ∀ b o, b ≠ X.env.locals → b ∈ X.fs → b ∉ ch → s.heap.get? b = some o → H b = none → ∃ sl, h'.get? b = some { o with slots := sl }) (free : ∀ b o, b ∉ ch → s.heap.get? b = some o → H b = none → H' b = none)
    (there : ∀ b o, b ∉ ch → s.heap.get? b = some o → ∃ o', h'.get? b = some o')
    (tups : ∀ b xs, H b = some (.tup xs) → H' b = some (.tup xs)) (frzs : ∀ b o u, H b = some (.frz o u) → H' b = some (.frz o u)) (tbls : ∀ b ps, H b = some (.tbl ps) → ∃ more, H' b = some (.tbl (ps ++ more)))
    (ns : ∀ m, s.heap.Ns X.env.locals m → h'.Ns X.env.locals m) (hok : HOk X.prog X.w H' h') (hg : AllBare g') :
    Inv X pins σ H' { s with heap := h', gens := g', drawn := d', toks := t' } := by
  have neL : ∀ b o, X.s₀.heap.get? b = some o → b ≠ X.env.locals := fun b o e => Nat.ne_of_lt (Nat.lt_of_lt_of_le (Heap.lt_size e) I.ok.above)
  have neC : ∀ b o, X.s₀.heap.get? b = some o → b ∉ X.ex → b ∉ ch := fun b o e hx hb => by
    rcases (hch b hb).1 with z | z
    · exact hx z
    · exact absurd (Nat.lt_of_lt_of_le (Heap.lt_size e) z) (Nat.lt_irrefl _)
  have cellK : ∀ x c, X.env.cells.lookup x = some c → ∀ v, s.heap.IsCell c v → h'.IsCell c v := fun x c e v ⟨o, ho, hd⟩ => by
    have nch : c ∉ ch := fun z => (hch c z).2.2.1 x c e rfl
    by_cases hc : c ∈ X.fs
    · obtain ⟨sl, q⟩ := slot c o (I.cne x c e) hc nch ho (I.freeC x c e)
      exact ⟨_, q, hd⟩
    · exact ⟨o, keep c o (I.cne x c e) hc nch ho (I.freeC x c e), hd⟩
  refine ⟨I.ok, I.os, hg, ⟨fun b o e n hb hx => ?_, fun b o e n hb hx => ?_, fun b o e n hx => ?_, fun b o e hx => ?_, fun b xs e => tups b xs (I.base.tups b xs e), fun b o xs e => frzs b o xs (I.base.frzs b o xs e), fun b ps e => ?_⟩, ?_, fun x c e => ?_, ?_, fun x c e => ?_, fun p hp => ?_, hok, I.len⟩
  · exact keep b o (neL b o e) hb (neC b o e hx) (I.base.keep b o e n hb hx) (I.base.free b o e n hx)
  · obtain ⟨sl, e1⟩ := I.base.slot b o e n hb hx
    obtain ⟨sl', e2⟩ := slot b _ (neL b o e) hb (neC b o e hx) e1 (I.base.free b o e n hx)
    exact ⟨sl', e2⟩
  · obtain ⟨o', e1⟩ := I.base.there b o e hx
    exact free b o' (neC b o e hx) e1 (I.base.free b o e n hx)
  · obtain ⟨o', e1⟩ := I.base.there b o e hx
    exact there b o' (neC b o e hx) e1
  · obtain ⟨m1, e1⟩ := I.base.tbls b ps e
    obtain ⟨m2, e2⟩ := tbls b _ e1
    exact ⟨m1 ++ m2, by rw [e2, Array.append_assoc]⟩
  · obtain ⟨m, hn, hl⟩ := I.loc
    refine ⟨m, ns m hn, fun i x v e1 e2 e3 => ?_⟩
    obtain ⟨u, r, l⟩ := hl i x v e1 e2 e3
    refine ⟨u, r, ?_⟩
    rcases l with l | ⟨k, c, e, z⟩
    · exact .inl l
    · exact .inr ⟨k, c, e, cellK x c e _ z⟩
  · obtain ⟨v, z⟩ := I.cell x c e
    exact ⟨v, cellK x c e v z⟩
  · obtain ⟨m, ⟨o, _, _, ho, _⟩, _⟩ := I.loc
    exact free _ o (fun z => (hch _ z).2.1 rfl) ho I.free
  · obtain ⟨v, o, ho, hd⟩ := I.cell x c e
    exact free c o (fun z => (hch c z).2.2.1 x c e rfl) ho (I.freeC x c e)
  · obtain ⟨e, n, ne, nf, d⟩ := I.pin p hp
    have nch : p.1 ∉ ch := fun z => (hch p.1 z).2.2.2 p hp rfl
    exact ⟨keep p.1 p.2 ne nf nch e n, free p.1 p.2 nch e n, ne, nf, d⟩
/-- .. where the frame's own object is kept too -/
theorem Inv.un {t' : Nat} (I : Inv X pins σ H s) (u : Un X.fs [] H H' s.heap h') (hok : HOk X.prog X.w H' h') : Inv X pins σ H' { s with heap := h', toks := t' } := by
  obtain ⟨m, ⟨o, es, ep, ho, r⟩, _⟩ := id I.loc
  obtain ⟨sl, hL⟩ := u.any ho I.free (by simp)
  exact I.step (g' := s.gens) (d' := s.drawn) (ch := []) (fun _ z => nomatch z) (fun b o _ hb _ e n => u.keep b o e n hb (by simp)) (fun b o _ hb _ e n => u.slot b o e n hb (by simp)) (fun b o _ e n => u.free b o e n (by simp)) (fun b o _ e => u.there b o e (by simp)) u.tups u.frzs u.tbls (fun m' hm => by
    obtain ⟨o', es', ep', ho', r'⟩ := hm
    rw [ho] at ho'; cases ho'
    exact ⟨_, es', ep', hL, r'⟩) hok I.bare
/-- behind a call (or a comprehension's block): the slots of this frame may have changed too, the records at ch may have turned -/
theorem Inv.call {g' : Array GenState} {t' : Nat} {d' : Drawn} {ch : List Addr} (I : Inv X pins σ H s) (u : Un (frs X.stack) ch H H' s.heap h') (hok : HOk X.prog X.w H' h') (hg : AllBare g')
    (hch : ∀ b ∈ ch, (b ∈ X.ex ∨ X.s₀.heap.objs.size ≤ b) ∧ b ≠ X.env.locals ∧ (∀ x c, X.env.cells.lookup x = some c → c ≠ b) ∧ ∀ p ∈ X.pn ++ pins, p.1 ≠ b) :
    Inv X pins σ H' { s with heap := h', gens := g', drawn := d', toks := t' } := by
  obtain ⟨m, ⟨o, es, ep, ho, r⟩, _⟩ := id I.loc
  obtain ⟨sl, hL⟩ := u.any ho I.free fun z => (hch _ z).2.1 rfl
  exact I.step (ch := ch) hch (fun b o hL hb hc e n => u.keep b o e n (fun z => (List.mem_cons.mp (I.stkSub b z)).elim hL hb) hc) (fun b o _ _ hc e n => u.any e n hc) (fun b o hc e n => u.free b o e n hc) (fun b o hc e => u.there b o e hc) u.tups u.frzs u.tbls (fun m' hm => by
    obtain ⟨o', es', ep', ho', r'⟩ := hm
    rw [ho] at ho'; cases ho'
    exact ⟨_, es', ep', hL, r'⟩) hok hg
/-- an untracked record of ours (an iterator) has turned -/
theorem Inv.turned {t' : Nat} {it : Addr} (I : Inv X pins σ H s) (k : ∀ b o, b ≠ it → s.heap.get? b = some o → h'.get? b = some o) (hn : H it = none) (hL : it ≠ X.env.locals)
    (h1 : it ∈ X.ex ∨ X.s₀.heap.objs.size ≤ it) (h2 : ∀ x c, X.env.cells.lookup x = some c → c ≠ it) (h3 : ∀ p ∈ X.pn ++ pins, p.1 ≠ it) : Inv X pins σ H { s with heap := h', toks := t' } := by
  have nit : ∀ b u, H b = some u → b ≠ it := fun b u e z => by rw [z, hn] at e; cases e
  refine I.step (g' := s.gens) (d' := s.drawn) (ch := [it]) (fun b hb => ?_) (fun b o _ _ hc e _ => k b o (fun z => hc (by simp [z])) e) (fun b o _ _ hc e _ => ⟨o.slots, k b o (fun z => hc (by simp [z])) e⟩) (fun _ _ _ _ n => n)
    (fun b o hc e => ⟨o, k b o (fun z => hc (by simp [z])) e⟩) (fun _ _ e => e) (fun _ _ _ e => e) (fun b ps e => ⟨#[], by rw [e]; simp⟩) (fun m hm => ?_) (fun b u e => ?_) I.bare
  · have e : b = it := by simpa using hb
    subst e
    exact ⟨h1, hL, h2, h3⟩
  · obtain ⟨o, es, ep, ho, r⟩ := hm
    exact ⟨o, es, ep, k _ o (Ne.symm hL) ho, r⟩
  · refine (I.hok b u e).stay (fun c v hc q => k c v ?_ q) (fun _ q => q) fun _ _ q => q
    rcases hc with z | z
    · rw [z]; exact nit b u e
    · exact nit c _ z
theorem Inv.tok (I : Inv X pins σ H s) (t : Nat) : Inv X pins σ H { s with toks := t } := I.un (h' := s.heap) (t' := t) Un.refl I.hok
/-- all objects kept -/
theorem Inv.kept {t' : Nat} (I : Inv X pins σ H s) (k : ∀ b u, s.heap.get? b = some u → h'.get? b = some u) : Inv X pins σ H { s with heap := h', toks := t' } := I.un (Un.kept k) (I.hok.kept k)
/-- a new object laid and tracked -/
theorem Inv.laid {a : Addr} {o : HO} {t' : Nat} (I : Inv X pins σ H s) (k : ∀ b u, s.heap.get? b = some u → h'.get? b = some u) (hp : s.heap.objs.size ≤ a) (new : ObjOk X.prog X.w (upd H a o) h' a o) :
    Inv X pins σ (upd H a o) { s with heap := h', toks := t' } := I.un (Un.laid k hp (I.hok.fresh hp)) (I.hok.laid k hp new)
/-- an object written -/
theorem Inv.write {x e : Addr} {o : HO} {t' : Nat} (I : Inv X pins σ H s) (mu : Mut (H x)) (he : e = x ∨ H e = some (.own x)) (k : ∀ b u, b ≠ e → s.heap.get? b = some u → h'.get? b = some u) (heo : ∃ u, h'.get? e = some u)
    (new : ObjOk X.prog X.w (upd H x o) h' x o) : Inv X pins σ (upd H x o) { s with heap := h', toks := t' } := I.un (Un.write mu he k heo) (I.hok.write mu he k heo new)
/-- forgetting slots, pins -/
theorem Inv.weak {σ' : List (Option V)} (I : Inv X pins σ H s) (hl : σ'.length = σ.length) (w : ∀ (i : Nat) v, σ'[i]? = some (some v) → σ[i]? = some (some v)) : Inv X pins σ' H s :=
  ⟨I.ok, I.os, I.bare, I.base, let ⟨m, hn, hl'⟩ := I.loc; ⟨m, hn, fun i x v e1 e2 e3 => hl' i x v e1 (w i v e2) e3⟩, I.cell, I.free, I.freeC, I.pin, I.hok, hl.trans I.len⟩
theorem Inv.pins_of {pins' : List (Addr × Obj)} (I : Inv X pins σ H s) (h : ∀ p ∈ pins', s.heap.get? p.1 = some p.2 ∧ H p.1 = none ∧ p.1 ≠ X.env.locals ∧ p.1 ∉ X.fs ∧ ∀ v, p.2.data ≠ .cell v) : Inv X pins' σ H s :=
  ⟨I.ok, I.os, I.bare, I.base, I.loc, I.cell, I.free, I.freeC, fun p hp => (List.mem_append.mp hp).elim (fun z => I.pin p (List.mem_append_left _ z)) (h p), I.hok, I.len⟩

theorem nodup_ix {N : List Str} (hN : N.Nodup) {i j : Nat} {x : Str} (a : N[i]? = some x) (b : N[j]? = some x) : i = j := by
  obtain ⟨h1, e1⟩ := List.getElem?_eq_some_iff.mp a
  obtain ⟨h2, e2⟩ := List.getElem?_eq_some_iff.mp b
  exact (List.getElem_inj hN).mp (e1.trans e2.symm)

/-- a name is stored; what changed -/
theorem store_ok2 {M : Model} {A : Around} {E : Value → Shared → Prop} {i : Nat} {x : Str} {v : V} {u : Value} {Q : Unit → Shared → Prop} (I : Inv X pins σ H s) (hN : X.N.Nodup) (hi : X.N[i]? = some x) (hx : Loc X.env.scope x) (r : RelV v u)
    (h : ∀ s', Inv X pins (σ.set i (some v)) H s' → (∃ a, Heap.SameBut a s.heap s'.heap ∧ (a = X.env.locals ∨ X.env.cells.lookup x = some a)) → Q () s') (hf : X.fn x = true ∨ X.env.scope.names.lookup x = some .local := by first | exact .inl rfl | exact .inr rfl | assumption) : wpAny M A (storeName X.env x u) Q E s := by
  obtain ⟨m, hn, hl⟩ := id I.loc
  have hcls : (X.env.scope.kind == .class || (X.env.scope.kind == .module && X.env.locals != X.env.globals)) = false := by rw [I.ok.kind]; rfl
  have hiσ : i < σ.length := by rw [I.len]; exact (List.getElem?_eq_some_iff.mp hi).1
  have cne := I.cne
  have tracked : ∀ {a : Addr} {h' : Heap}, (∃ o, s.heap.get? a = some o ∧ H a = none) → Heap.SameBut a s.heap h' → HOk X.prog X.w H h' := fun {a h'} ha hs b ob e => by
    obtain ⟨_, _, hfree⟩ := ha
    refine (I.hok b ob e).stay (fun c w' hc q => (hs.2 c ?_).trans q) (fun _ q => q) fun _ _ q => q
    rintro rfl
    rcases hc with rfl | hc
    · rw [hfree] at e; cases e
    · rw [hfree] at hc; cases hc
  rcases hx with hk | hk
  · refine wpAny_storeName_local hk hn (fun h' hn' hs => ?_) hcls
    obtain ⟨oL, _, _, hoL, _⟩ := id hn
    refine h _ ⟨I.ok, I.os, I.bare, ⟨fun b o e n hb hx => ?_, fun b o e n hb hx => ?_, I.base.free, fun b o e hx => ?_, I.base.tups, I.base.frzs, I.base.tbls⟩, ⟨_, hn', fun j y v' e1 e2 e3 => ?_⟩, fun y c e => ?_, I.free, I.freeC, fun p hp => ?_, tracked ⟨oL, hoL, I.free⟩ hs, by simpa using I.len⟩ ⟨_, hs, .inl rfl⟩
    · exact (hs.2 b (Nat.ne_of_lt (Nat.lt_of_lt_of_le (Heap.lt_size e) I.ok.above))).trans (I.base.keep b o e n hb hx)
    · obtain ⟨sl, e1⟩ := I.base.slot b o e n hb hx
      exact ⟨sl, (hs.2 b (Nat.ne_of_lt (Nat.lt_of_lt_of_le (Heap.lt_size e) I.ok.above))).trans e1⟩
    · obtain ⟨o', e1⟩ := I.base.there b o e hx
      exact ⟨o', (hs.2 b (Nat.ne_of_lt (Nat.lt_of_lt_of_le (Heap.lt_size e) I.ok.above))).trans e1⟩
    · by_cases hj : j = i
      · subst hj
        rw [hi] at e1; cases e1
        rw [List.getElem?_set_self hiσ] at e2
        cases e2
        exact ⟨u, r, .inl ⟨hk, by simp⟩⟩
      · rw [List.getElem?_set_ne (Ne.symm hj)] at e2
        obtain ⟨u', r', q⟩ := hl j y v' e1 e2 e3
        refine ⟨u', r', ?_⟩
        rcases q with ⟨k, e⟩ | ⟨k, c, e, z⟩
        · refine .inl ⟨k, ?_⟩
          have : y ≠ x := fun e => hj (nodup_ix hN e1 (e ▸ hi))
          simp [this, e]
        · exact .inr ⟨k, c, e, z.sameBut hs (cne y c e)⟩
    · obtain ⟨w', z⟩ := I.cell y c e
      exact ⟨w', z.sameBut hs (cne y c e)⟩
    · obtain ⟨e, n, ne, nf, d⟩ := I.pin p hp
      exact ⟨(hs.2 p.1 ne).trans e, n, ne, nf, d⟩
  · have hfn : X.fn x = true := by
      rcases hf with z | z
      · exact z
      · rw [z] at hk; cases hk
    obtain ⟨c, hc⟩ := I.ok.has x (.inl hk)
    obtain ⟨w', z⟩ := I.cell x c hc
    refine wpAny_storeName_cell I.ok.kind hk hc z (fun h' hc' hs => ?_)
    obtain ⟨oc, hoc, hocd⟩ := id z
    refine h { s with heap := h' } ⟨I.ok, I.os, I.bare, ⟨fun b o e n hb hx => ?_, fun b o e n hb hx => ?_, I.base.free, fun b o e hx => ?_, I.base.tups, I.base.frzs, I.base.tbls⟩, ⟨m, hn.sameBut hs (Ne.symm (cne x c hc)), fun j y v' e1 e2 e3 => ?_⟩, fun y c' e => ?_, I.free, I.freeC, fun p hp => ?_, tracked ⟨oc, hoc, I.freeC x c hc⟩ hs, by simpa using I.len⟩ ⟨c, hs, .inr hc⟩
    · exact (hs.2 b (Nat.ne_of_lt (Nat.lt_of_lt_of_le (Heap.lt_size e) (I.ok.cab x c hfn hc)))).trans (I.base.keep b o e n hb hx)
    · obtain ⟨sl, e1⟩ := I.base.slot b o e n hb hx
      exact ⟨sl, (hs.2 b (Nat.ne_of_lt (Nat.lt_of_lt_of_le (Heap.lt_size e) (I.ok.cab x c hfn hc)))).trans e1⟩
    · obtain ⟨o', e1⟩ := I.base.there b o e hx
      exact ⟨o', (hs.2 b (Nat.ne_of_lt (Nat.lt_of_lt_of_le (Heap.lt_size e) (I.ok.cab x c hfn hc)))).trans e1⟩
    · by_cases hj : j = i
      · subst hj
        rw [hi] at e1; cases e1
        rw [List.getElem?_set_self hiσ] at e2
        cases e2
        exact ⟨u, r, .inr ⟨.inl hk, c, hc, hc'⟩⟩
      · rw [List.getElem?_set_ne (Ne.symm hj)] at e2
        obtain ⟨u', r', q⟩ := hl j y v' e1 e2 e3
        refine ⟨u', r', ?_⟩
        rcases q with q | ⟨k, c', e, z'⟩
        · exact .inl q
        · refine .inr ⟨k, c', e, z'.sameBut hs ?_⟩
          rintro rfl
          exact hj (nodup_ix hN e1 (I.ok.inj _ _ _ e hc ▸ hi))
    · by_cases hcc : c' = c
      · subst hcc; exact ⟨_, hc'⟩
      · obtain ⟨w2, z2⟩ := I.cell y c' e
        exact ⟨w2, z2.sameBut hs hcc⟩
    · obtain ⟨e, n, ne, nf, d⟩ := I.pin p hp
      refine ⟨(hs.2 p.1 ?_).trans e, n, ne, nf, d⟩
      intro q
      rw [q, hoc] at e
      have q' : oc = p.2 := Option.some.inj e
      exact d w' (by rw [← q']; exact hocd)
theorem store_ok {M : Model} {A : Around} {E : Value → Shared → Prop} {i : Nat} {x : Str} {v : V} {u : Value} {Q : Unit → Shared → Prop} (I : Inv X pins σ H s) (hN : X.N.Nodup) (hi : X.N[i]? = some x) (hx : Loc X.env.scope x) (r : RelV v u)
    (h : ∀ s', Inv X pins (σ.set i (some v)) H s' → Q () s') (hf : X.fn x = true ∨ X.env.scope.names.lookup x = some .local := by first | exact .inl rfl | exact .inr rfl | assumption) : wpAny M A (storeName X.env x u) Q E s :=
  store_ok2 I hN hi hx r (fun s' I' _ => h s' I') hf
/-- behind a call or a block, the state as it is -/
theorem Inv.call' {s' : Shared} {ch : List Addr} (I : Inv X pins σ H s) (ho : s'.os = s.os) (u : Un (frs X.stack) ch H H' s.heap s'.heap) (hok : HOk X.prog X.w H' s'.heap) (hg : AllBare s'.gens)
    (hch : ∀ b ∈ ch, (b ∈ X.ex ∨ X.s₀.heap.objs.size ≤ b) ∧ b ≠ X.env.locals ∧ (∀ x c, X.env.cells.lookup x = some c → c ≠ b) ∧ ∀ p ∈ X.pn ++ pins, p.1 ≠ b) : Inv X pins σ H' s' := by
  obtain ⟨h', g', d', t', o'⟩ := s'
  have e : o' = s.os := ho
  subst e
  exact I.call (g' := g') (t' := t') (d' := d') u hok hg hch
end

/-! ### the judgements -/
/-- an exception: its class, its own dict's address (where it has one), the abstract heap behind it -/
abbrev XK := Value → Option Addr → Hp → Prop
abbrev St := List (Option V)
abbrev VK := V → Hp → Prop
/-- an expression's reading; a test's; an argument list's -/
abbrev TE := St → Hp → VK → Prop
abbrev TT := St → Hp → (Bool → Hp → Prop) → Prop
abbrev TA := St → Hp → (List V → Hp → Prop) → Prop
/-- what is wanted behind a statement -/
structure Ends where
  nx : St → Hp → Prop
  rt : VK
  bk : St → Hp → Prop := fun _ _ => False
  ct : St → Hp → Prop := fun _ _ => False
abbrev TS := Ends → St → Hp → Prop

def EP (X : Cx) (pins : List (Addr × Obj)) (σ : St) (Q : VK) (u : Value) (s' : Shared) : Prop := ∃ v H', Inv X pins σ H' s' ∧ RelV v u ∧ Q v H'
def TP (X : Cx) (pins : List (Addr × Obj)) (σ : St) (Q : Bool → Hp → Prop) (b : Bool) (s' : Shared) : Prop := ∃ H', Inv X pins σ H' s' ∧ Q b H'
def AP (X : Cx) (pins : List (Addr × Obj)) (σ : St) (Q : List V → Hp → Prop) (us : List Value) (s' : Shared) : Prop := ∃ vs H', Inv X pins σ H' s' ∧ Vals vs us ∧ Q vs H'
def SP (X : Cx) (pins : List (Addr × Obj)) (D : Ends) (f : Flow) (s' : Shared) : Prop :=
  match f with
  | .next => ∃ σ' H', Inv X pins σ' H' s' ∧ D.nx σ' H'
  | .brk => ∃ σ' H', Inv X pins σ' H' s' ∧ D.bk σ' H'
  | .cont => ∃ σ' H', Inv X pins σ' H' s' ∧ D.ct σ' H'
  | .ret u => ∃ v σ' H', Inv X pins σ' H' s' ∧ RelV v u ∧ D.rt v H'

def PE (X : Cx) (e : Expr) (t : TE) : Prop :=
  ∀ (pins : List (Addr × Obj)) (s : Shared) (σ : St) (H : Hp) (Q : VK), Inv X pins σ H s → t σ H Q → wpAny (model X.prog X.w) X.A (eval e X.env) (EP X pins σ Q) X.xe s
def PT (X : Cx) (e : Expr) (t : TT) : Prop :=
  ∀ (pins : List (Addr × Obj)) (s : Shared) (σ : St) (H : Hp) (Q : Bool → Hp → Prop), Inv X pins σ H s → t σ H Q → wpAny (model X.prog X.w) X.A (isTrue e X.env (eval e X.env)) (TP X pins σ Q) X.xe s
/-- a test whatever its 'whole' is (and, or) -/
def PW (X : Cx) (e : Expr) (t : TT) : Prop :=
  ∀ (whole : Sem Value) (pins : List (Addr × Obj)) (s : Shared) (σ : St) (H : Hp) (Q : Bool → Hp → Prop), Inv X pins σ H s → t σ H Q → wpAny (model X.prog X.w) X.A (isTrue e X.env whole) (TP X pins σ Q) X.xe s
theorem PW.pt {X : Cx} {e : Expr} {t : TT} (h : PW X e t) : PT X e t := h _
/-- an argument list (no star), from the left -/
def PA (X : Cx) (es : List Expr) (t : TA) : Prop :=
  ∀ (pos : Pos) (pins : List (Addr × Obj)) (s : Shared) (σ : St) (H : Hp) (Q : List V → Hp → Prop), Inv X pins σ H s → t σ H Q → wpAny (model X.prog X.w) X.A (spliced (backTo pos (starEach es X.env))) (AP X pins σ Q) X.xe s
def PS (X : Cx) (st : Stmt) (t : TS) : Prop :=
  ∀ (pins : List (Addr × Obj)) (s : Shared) (σ : St) (H : Hp) (D : Ends), Inv X pins σ H s → t D σ H → wpAny (model X.prog X.w) X.A (exec st X.env) (SP X pins D) X.xe s
def PSs (X : Cx) (st : List Stmt) (t : TS) : Prop :=
  ∀ (pins : List (Addr × Obj)) (s : Shared) (σ : St) (H : Hp) (D : Ends), Inv X pins σ H s → t D σ H → wpAny (model X.prog X.w) X.A (execs st X.env) (SP X pins D) X.xe s
/-- weaken the end -/
theorem thn {α : Type} {t : Sem α} {Q Q' : α → Shared → Prop} {M : Model} {A : Around} {E : Value → Shared → Prop} {s : Shared} (h : wpAny M A t Q E s) (hQ : ∀ a s, Q a s → Q' a s) : wpAny M A t Q' E s := wpAny_mono h hQ fun _ _ x => x
end L2

namespace L2
open PySem PySem.Spec PyProof.Rows
section
variable {X : Cx}

/-- two expressions in a row -/
theorem bin {a b : Expr} {ta tb : TE} (ha : PE X a ta) (hb : PE X b tb) {pins : List (Addr × Obj)} {s : Shared} {σ : St} {H : Hp} {R : V → V → Hp → Prop} (I : Inv X pins σ H s) (h : ta σ H fun x H1 => tb σ H1 fun y H2 => R x y H2)
    {α : Type} {Q : α → Shared → Prop} {f : Value → Value → Sem α}
    (hf : ∀ v u s2 x y H2, Inv X pins σ H2 s2 → RelV x v → RelV y u → R x y H2 → wpAny (model X.prog X.w) X.A (f v u) Q X.xe s2) :
    wpAny (model X.prog X.w) X.A (eval a X.env) (fun v s₁ => wpAny (model X.prog X.w) X.A (eval b X.env) (fun u s₂ => wpAny (model X.prog X.w) X.A (f v u) Q X.xe s₂) X.xe s₁) X.xe s := by
  refine thn (ha pins s σ H _ I h) fun v s1 ⟨x, H1, I1, r1, q1⟩ => ?_
  refine thn (hb pins s1 σ H1 _ I1 q1) fun u s2 ⟨y, H2, I2, r2, q2⟩ => ?_
  exact hf v u s2 x y H2 I2 r1 r2 q2

/-! ### names and constants -/
def tVar (i : Nat) : TE := fun σ H Q => ∃ v, σ[i]? = some (some v) ∧ Q v H
def tC (v : V) : TE := fun _ H Q => Q v H
theorem pe_var {i : Nat} {x : Str} {pos : Pos} (hN : X.N[i]? = some x) (hv : Vis X.env.scope x) (hd : (x == ("__debug__" : Str)) = false := by decide) (hcd : (x == ("__classdict__" : Str)) = false := by decide) : PE X (.Name x pos) (tVar i) := by
  intro pins s σ H Q I h
  obtain ⟨v, e, h⟩ := h
  obtain ⟨m, hn, hl⟩ := I.loc
  obtain ⟨u, r, l⟩ := hl i x v hN e hv
  have fin : EP X pins σ Q u s := ⟨v, H, I, r, h⟩
  rcases l with ⟨hk, hm⟩ | ⟨hk, c, hc, hcell⟩
  · exact wpAny_Name (wpAny_loadName_local I.ok.kind hk hn hm fin) hd
  · rcases hk with hk | hk
    · exact wpAny_Name (wpAny_loadName_cell I.ok.kind hk hc hcell fin) hd
    · exact wpAny_Name (wpAny_loadName_free I.ok.kind hk hc hcell fin hcd) hd
theorem pe_int {i j pos} : PE X (.Constant (.int i) j pos) (tC (.int i)) := fun _ _ _ H _ I h => wpAny_Constant_int ⟨.int i, H, I.tok _, ⟨_, rfl⟩, h⟩
theorem pe_bl {b j pos} : PE X (.Constant (.bool b) j pos) (tC (.bl b)) := fun _ _ _ H _ I h => Constant_bool ⟨.bl b, H, I, rfl, h⟩
theorem pe_non {j pos} : PE X (.Constant .none j pos) (tC .non) := fun _ _ _ H _ I h => Constant_none ⟨.non, H, I, rfl, h⟩
theorem pe_str {x j pos} : PE X (.Constant (.str x) j pos) (tC (.str x)) := fun _ _ _ H _ I h => Calls.Constant_str ⟨.str x, H, I.tok _, ⟨_, rfl⟩, h⟩

/-- a global name of the def -/
def Gl (X : Cx) (x : Str) : Prop := X.env.kindOf x = some .globalImplicit
theorem ld_glob {E : Value → Shared → Prop} {pins : List (Addr × Obj)} {s : Shared} {σ : St} {H : Hp} {x : Str} {u : Value} {pos : Pos} {Q : Value → Shared → Prop} (I : Inv X pins σ H s) (hg : Gl X x) (hm : X.mg x = some u) (h : Q u s)
    (hd : (x == ("__debug__" : Str)) = false := by decide) : wpAny (model X.prog X.w) X.A (eval (.Name x pos) X.env) Q E s :=
  Calls.Name_function_global I.ok.kind hg (Calls.loadGlobal_global (by rw [I.ok.glob]; exact I.mod.glob.keeps I.bk) hm h) hd
theorem ld_blt {E : Value → Shared → Prop} {pins : List (Addr × Obj)} {s : Shared} {σ : St} {H : Hp} {x : Str} {u : Value} {pos : Pos} {Q : Value → Shared → Prop} (I : Inv X pins σ H s) (hg : Gl X x) (hm : X.mg x = none) (hv : bootBuiltins x = some u) (h : Q u s)
    (hn : x ≠ "__name__" := by decide) (hd : (x == ("__debug__" : Str)) = false := by decide) : wpAny (model X.prog X.w) X.A (eval (.Name x pos) X.env) Q E s := by
  obtain ⟨mb, h1, h2⟩ := I.mod.blt
  exact Calls.Name_function_global I.ok.kind hg (Calls.loadGlobal_builtin (by rw [I.ok.glob]; exact I.mod.glob.keeps I.bk) hm (by rw [I.ok.blt]; exact h1.keeps I.bk) ((h2 x hn).trans hv) h) hd
/-- a module's constant, a class, a function, as a value -/
theorem pe_glob {x : Str} {v : V} {u : Value} {pos : Pos} (hg : Gl X x) (hm : X.mg x = some u) (r : RelV v u) (hd : (x == ("__debug__" : Str)) = false := by decide) : PE X (.Name x pos) (tC v) :=
  fun _ _ _ H _ I h => ld_glob I hg hm ⟨v, H, I, r, h⟩ hd
theorem pe_bltn {x : Str} {v : V} {u : Value} {pos : Pos} (hg : Gl X x) (hm : X.mg x = none) (hv : bootBuiltins x = some u) (r : RelV v u) (hn : x ≠ "__name__" := by decide) (hd : (x == ("__debug__" : Str)) = false := by decide) : PE X (.Name x pos) (tC v) :=
  fun _ _ _ H _ I h => ld_blt I hg hm hv ⟨v, H, I, r, h⟩ hn hd

/-! ### arithmetic -/
/-- two ints -/
def t2I (ta tb : TE) (k : Int → Int → Hp → Prop) : St → Hp → Prop := fun σ H => ta σ H fun x H1 => tb σ H1 fun y H2 => ∃ i j, x = .int i ∧ y = .int j ∧ k i j H2
def tAdd (ta tb : TE) : TE := fun σ H Q => t2I ta tb (fun i j H2 => Q (.int (i + j)) H2) σ H
def tSub (ta tb : TE) : TE := fun σ H Q => t2I ta tb (fun i j H2 => Q (.int (i - j)) H2) σ H
/-- the left factor below 2^64 -/
def tMul (ta tb : TE) : TE := fun σ H Q => t2I ta tb (fun i j H2 => (-(2 ^ 64) < i ∧ i < 2 ^ 64) ∧ Q (.int (i * j)) H2) σ H
variable {a b : Expr} {ta tb : TE} {pos : Pos}
theorem pe_add (ha : PE X a ta) (hb : PE X b tb) : PE X (.BinOp a .Add b pos) (tAdd ta tb) := by
  intro pins s σ H Q I h
  refine wpAny_BinOp (bin ha hb I h fun v u s2 x y H2 I2 rx ry q => ?_)
  obtain ⟨i, j, rfl, rfl, q⟩ := q
  obtain ⟨t, rfl⟩ := rx
  obtain ⟨t', rfl⟩ := ry
  exact add_int ⟨.int _, H2, I2.tok _, ⟨_, rfl⟩, q⟩
theorem pe_sub (ha : PE X a ta) (hb : PE X b tb) : PE X (.BinOp a .Sub b pos) (tSub ta tb) := by
  intro pins s σ H Q I h
  refine wpAny_BinOp (bin ha hb I h fun v u s2 x y H2 I2 rx ry q => ?_)
  obtain ⟨i, j, rfl, rfl, q⟩ := q
  obtain ⟨t, rfl⟩ := rx
  obtain ⟨t', rfl⟩ := ry
  exact sub_int ⟨.int _, H2, I2.tok _, ⟨_, rfl⟩, q⟩
theorem pe_mul (ha : PE X a ta) (hb : PE X b tb) : PE X (.BinOp a .Mult b pos) (tMul ta tb) := by
  intro pins s σ H Q I h
  refine wpAny_BinOp (bin ha hb I h fun v u s2 x y H2 I2 rx ry q => ?_)
  obtain ⟨i, j, rfl, rfl, ⟨q1, q2⟩, q⟩ := q
  obtain ⟨t, rfl⟩ := rx
  obtain ⟨t', rfl⟩ := ry
  exact mul_int ⟨.int _, H2, I2.tok _, ⟨_, rfl⟩, q⟩ (.of_left (intBits_le_64 q1 q2))

/-! ### comparisons -/
def PC (X : Cx) (op : CmpOp) (a b : Expr) (t : TE) : Prop :=
  ∀ (pins : List (Addr × Obj)) (s : Shared) (σ : St) (H : Hp) (Q : VK), Inv X pins σ H s → t σ H Q →
    wpAny (model X.prog X.w) X.A (eval a X.env) (fun v s₁ => wpAny (model X.prog X.w) X.A (eval b X.env) (fun u s₂ => wpAny (model X.prog X.w) X.A (compareOp op v u) (EP X pins σ Q) X.xe s₂) X.xe s₁) X.xe s
theorem nobehind (b : Expr) {op : CmpOp} (h : op ≠ .In) (h2 : op ≠ .NotIn) : behindInMarks op b = false := by
  have e1 : (op == CmpOp.In) = false := by cases op <;> first | rfl | exact absurd rfl h
  have e2 : (op == CmpOp.NotIn) = false := by cases op <;> first | rfl | exact absurd rfl h2
  cases b <;> simp [behindInMarks, e1, e2]
def tCmp (p : Int → Int → Bool) (ta tb : TE) : TE := fun σ H Q => t2I ta tb (fun i j H2 => Q (.bl (p i j)) H2) σ H
abbrev tLt : TE → TE → TE := tCmp fun i j => decide (i < j)
abbrev tLe : TE → TE → TE := tCmp fun i j => decide (i ≤ j)
abbrev tGt : TE → TE → TE := tCmp fun i j => decide (j < i)
abbrev tGe : TE → TE → TE := tCmp fun i j => decide (j ≤ i)
abbrev tEqI : TE → TE → TE := tCmp fun i j => decide (i = j)
abbrev tNeI : TE → TE → TE := tCmp fun i j => !decide (i = j)
/-- a comparison of two ints, by its rule -/
theorem pc_int {op : CmpOp} {p : Int → Int → Bool} (ha : PE X a ta) (hb : PE X b tb)
    (rule : ∀ (i j : Int) (t u : Tok) (Q : Value → Shared → Prop) (s : Shared), Q (.bool (p i j)) s → wpAny (model X.prog X.w) X.A (compareOp op (.int i t) (.int j u)) Q X.xe s) : PC X op a b (tCmp p ta tb) := by
  intro pins s σ H Q I h
  refine bin ha hb I h fun v u s2 x y H2 I2 rx ry q => ?_
  obtain ⟨i, j, rfl, rfl, q⟩ := q
  obtain ⟨t, rfl⟩ := rx
  obtain ⟨t', rfl⟩ := ry
  exact rule i j t t' _ s2 ⟨.bl _, H2, I2, rfl, q⟩
theorem pc_lt (ha : PE X a ta) (hb : PE X b tb) : PC X .Lt a b (tLt ta tb) := pc_int ha hb fun _ _ _ _ _ _ h => lt_int h
theorem pc_le (ha : PE X a ta) (hb : PE X b tb) : PC X .LtE a b (tLe ta tb) := pc_int ha hb fun _ _ _ _ _ _ h => le_int h
theorem pc_gt (ha : PE X a ta) (hb : PE X b tb) : PC X .Gt a b (tGt ta tb) := pc_int ha hb fun _ _ _ _ _ _ h => gt_int h
theorem pc_ge (ha : PE X a ta) (hb : PE X b tb) : PC X .GtE a b (tGe ta tb) := pc_int ha hb fun _ _ _ _ _ _ h => ge_int h
theorem pc_eqI (ha : PE X a ta) (hb : PE X b tb) : PC X .Eq a b (tEqI ta tb) := pc_int ha hb fun _ _ _ _ _ _ h => eq_int (by rw [Bool.beq_eq_decide_eq]; exact h)
theorem pc_neI (ha : PE X a ta) (hb : PE X b tb) : PC X .NotEq a b (tNeI ta tb) := pc_int ha hb fun _ _ _ _ _ _ h => ne_int (by rw [bne, Bool.beq_eq_decide_eq]; exact h)
/-- is None -/
def tIsN (ta : TE) : TE := fun σ H Q => ta σ H fun x H1 => Q (.bl (decide (x = .non))) H1
def tNotN (ta : TE) : TE := fun σ H Q => ta σ H fun x H1 => Q (.bl (!decide (x = .non))) H1
theorem RelV.none_iff {x : V} {v : Value} (r : RelV x v) : (v == Value.none) = decide (x = .non) := by
  cases x with
  | non => cases r; rfl
  | bl _ => cases r; rfl
  | int _ => obtain ⟨t, rfl⟩ := r; rfl
  | str _ => obtain ⟨t, rfl⟩ := r; rfl
  | byt _ => obtain ⟨t, rfl⟩ := r; rfl
  | flt _ => obtain ⟨t, rfl⟩ := r; rfl
  | ref _ => cases r; rfl
  | ty _ => cases r; rfl
theorem pc_isN {j pos'} (ha : PE X a ta) : PC X .Is a (.Constant .none j pos') (tIsN ta) := by
  intro pins s σ H Q I h
  refine thn (ha pins s σ H _ I h) fun v s1 ⟨x, H1, I1, r1, q1⟩ => ?_
  exact Constant_none (is_none_gen ⟨.bl _, H1, I1, by rw [r1.none_iff]; rfl, q1⟩)
theorem pc_notN {j pos'} (ha : PE X a ta) : PC X .IsNot a (.Constant .none j pos') (tNotN ta) := by
  intro pins s σ H Q I h
  refine thn (ha pins s σ H _ I h) fun v s1 ⟨x, H1, I1, r1, q1⟩ => ?_
  exact Constant_none (isnot_none_gen ⟨.bl _, H1, I1, by rw [r1.none_iff]; rfl, q1⟩)
/-- a comparison as a value, as a test -/
def tB (t : TE) : TT := fun σ H Q => t σ H fun x H1 => ∃ c, x = .bl c ∧ Q c H1
theorem pe_cmp {op : CmpOp} {t : TE} (h : PC X op a b t) (h1 : behindInMarks op b = false := by first | exact nobehind _ (by decide) (by decide) | rfl) : PE X (.Compare a [op] [b] pos) t := fun pins s σ H Q I hw => wpAny_Compare1 (h pins s σ H Q I hw) h1
theorem pt_cmp {op : CmpOp} {t : TE} (h : PC X op a b t) (h1 : behindInMarks op b = false := by first | exact nobehind _ (by decide) (by decide) | rfl) : PT X (.Compare a [op] [b] pos) (tB t) := by
  intro pins s σ H Q I hw
  refine wpAny_isTrue_Compare1 (thn (h pins s σ H _ I hw) fun v s1 h1 => thn h1 fun u s2 h2 => thn h2 fun c s3 ⟨x, H1, I1, r1, q1⟩ => ?_) h1
  obtain ⟨d, rfl, q⟩ := q1
  cases r1
  exact wpAny_truthy_bool ⟨H1, I1, q⟩
/-- an expression whose value is a bool, as a test -/
theorem pt_val {e : Expr} {t : TE} (h : PE X e t) (he : ∀ whole, isTrue e X.env whole = (do let v ← whole; standAt e.pos; holding [v] (truthy v)) := by intro _; rfl) : PT X e (tB t) := by
  intro pins s σ H Q I hw
  refine isTrue_plain (thn (h pins s σ H _ I hw) fun v s1 ⟨x, H1, I1, r1, q1⟩ => ?_) (he _)
  obtain ⟨d, rfl, q⟩ := q1
  cases r1
  exact wpAny_truthy_bool ⟨H1, I1, q⟩

/-! ### and, or, not -/
variable {tA tB' : TT} {rest : List Expr}
def tAnd (t u : TT) : TT := fun σ H Q => t σ H fun c H1 => if c = true then u σ H1 Q else Q false H1
def tOr (t u : TT) : TT := fun σ H Q => t σ H fun c H1 => if c = true then Q true H1 else u σ H1 Q
def tNot (t : TT) : TT := fun σ H Q => t σ H fun c H1 => Q (!c) H1
theorem pw_and1 (ha : PT X a tA) : PW X (.BoolOp .And [a] pos) tA := by
  intro wh pins s σ H Q I h
  refine isTrue_and (thn (ha pins s σ H Q I h) fun c s1 e => ?_)
  cases c with
  | true => exact isTrue_and_nil e
  | false => exact e
theorem pw_or1 (ha : PT X a tA) : PW X (.BoolOp .Or [a] pos) tA := by
  intro wh pins s σ H Q I h
  refine isTrue_or (thn (ha pins s σ H Q I h) fun c s1 e => ?_)
  cases c with
  | false => exact isTrue_or_nil e
  | true => exact e
theorem pw_and (ha : PT X a tA) (hb : PW X (.BoolOp .And (b :: rest) pos) tB') : PW X (.BoolOp .And (a :: b :: rest) pos) (tAnd tA tB') := by
  intro wh pins s σ H Q I h
  refine isTrue_and (thn (ha pins s σ H _ I h) fun c s1 ⟨H1, I1, q1⟩ => ?_)
  cases c with
  | true => exact hb wh pins s1 σ H1 Q I1 q1
  | false => exact ⟨H1, I1, q1⟩
theorem pw_or (ha : PT X a tA) (hb : PW X (.BoolOp .Or (b :: rest) pos) tB') : PW X (.BoolOp .Or (a :: b :: rest) pos) (tOr tA tB') := by
  intro wh pins s σ H Q I h
  refine isTrue_or (thn (ha pins s σ H _ I h) fun c s1 ⟨H1, I1, q1⟩ => ?_)
  cases c with
  | true => exact ⟨H1, I1, q1⟩
  | false => exact hb wh pins s1 σ H1 Q I1 q1
theorem pt_not (ha : PT X a tA) : PT X (.UnaryOp .Not a pos) (tNot tA) := by
  intro pins s σ H Q I h
  exact isTrue_not (ha pins s σ H (fun c H1 => Q (!c) H1) I h)
/-- .. as values (bools) -/
def tAndV (ta tb : TE) : TE := fun σ H Q => ta σ H fun x H1 => ∃ c, x = .bl c ∧ if c = true then tb σ H1 Q else Q (.bl false) H1
def tOrV (ta tb : TE) : TE := fun σ H Q => ta σ H fun x H1 => ∃ c, x = .bl c ∧ if c = true then Q (.bl true) H1 else tb σ H1 Q
def tNotV (ta : TE) : TE := fun σ H Q => ta σ H fun x H1 => ∃ c, x = .bl c ∧ Q (.bl (!c)) H1
theorem pe_one {op} {t : TE} (h : PE X a t) : PE X (.BoolOp op [a] pos) t := fun pins s σ H Q I hw => BoolOp_one (h pins s σ H Q I hw)
theorem pe_and (ha : PE X a ta) (hb : PE X (.BoolOp .And (b :: rest) pos) tb) : PE X (.BoolOp .And (a :: b :: rest) pos) (tAndV ta tb) := by
  intro pins s σ H Q I h
  refine BoolOp_and (thn (ha pins s σ H _ I h) fun v s1 ⟨x, H1, I1, r1, q1⟩ => ?_)
  obtain ⟨c, rfl, q1⟩ := q1
  cases r1
  refine wpAny_truthy_bool ?_
  cases c with
  | true => exact hb pins s1 σ H1 Q I1 q1
  | false => exact ⟨.bl false, H1, I1, rfl, q1⟩
theorem pe_or (ha : PE X a ta) (hb : PE X (.BoolOp .Or (b :: rest) pos) tb) : PE X (.BoolOp .Or (a :: b :: rest) pos) (tOrV ta tb) := by
  intro pins s σ H Q I h
  refine BoolOp_or (thn (ha pins s σ H _ I h) fun v s1 ⟨x, H1, I1, r1, q1⟩ => ?_)
  obtain ⟨c, rfl, q1⟩ := q1
  cases r1
  refine wpAny_truthy_bool ?_
  cases c with
  | false => exact hb pins s1 σ H1 Q I1 q1
  | true => exact ⟨.bl true, H1, I1, rfl, q1⟩
theorem pe_not (ha : PE X a ta) : PE X (.UnaryOp .Not a pos) (tNotV ta) := by
  intro pins s σ H Q I h
  refine UnaryOp_ (thn (ha pins s σ H _ I h) fun v s1 ⟨x, H1, I1, r1, q1⟩ => ?_)
  obtain ⟨c, rfl, q1⟩ := q1
  cases r1
  exact not_of (wpAny_truthy_bool ⟨.bl (!c), H1, I1, rfl, q1⟩)
/-- a if t else b -/
def tIf (t : TT) (ta tb : TE) : TE := fun σ H Q => t σ H fun c H1 => if c = true then ta σ H1 Q else tb σ H1 Q
theorem pe_ifExp {c : Expr} (hc : PT X c tA) (ha : PE X a ta) (hb : PE X b tb) : PE X (.IfExp c a b pos) (tIf tA ta tb) := by
  intro pins s σ H Q I h
  refine wpAny_IfExp (thn (hc pins s σ H _ I h) fun d s1 ⟨H1, I1, q1⟩ => ?_)
  cases d with
  | true => exact ha pins s1 σ H1 Q I1 q1
  | false => exact hb pins s1 σ H1 Q I1 q1
end
end L2

namespace L2
open PySem PySem.Spec PyProof.Rows

/-! ### a list, a tuple that is read: tracked, frozen, or an object of the module -/
def SqL (K : PySem.W.Frag) (H : Hp) (a : Addr) (xs : List V) : Prop :=
  Rd H a (.lst xs) ∨
    ∃ (o : Obj) (its : Array Value) (n : Nat), K.lookup a = some o ∧ o.cls = .type "list" ∧ o.dict = none ∧ o.data = .seq its n ∧ its.size ≤ sizeLine ∧ Vals xs its.toList
def SqT (K : PySem.W.Frag) (H : Hp) (a : Addr) (xs : List V) : Prop :=
  Rd H a (.tup xs) ∨
    ∃ (o : Obj) (its : Array Value) (n : Nat), K.lookup a = some o ∧ o.cls = .type "tuple" ∧ o.data = .seq its n ∧ its.size ≤ sizeLine ∧ Vals xs its.toList
def absV : Value → Option V
  | .none => some .non
  | .bool b => some (.bl b)
  | .int i _ => some (.int i)
  | .str x _ => some (.str x)
  | .bytes b _ => some (.byt b)
  | .float b _ => some (.flt b)
  | .ref a => some (.ref a)
  | .type n => some (.ty n)
  | _ => none
theorem RelV.abs {x : V} {u : Value} (r : RelV x u) : absV u = some x := by
  cases x with
  | non => cases r; rfl
  | bl _ => cases r; rfl
  | int _ => obtain ⟨t, rfl⟩ := r; rfl
  | str _ => obtain ⟨t, rfl⟩ := r; rfl
  | byt _ => obtain ⟨t, rfl⟩ := r; rfl
  | flt _ => obtain ⟨t, rfl⟩ := r; rfl
  | ref _ => cases r; rfl
  | ty _ => cases r; rfl
theorem RelV.inj {x y : V} {u : Value} (r : RelV x u) (q : RelV y u) : x = y := Option.some.inj (r.abs.symm.trans q.abs)
theorem Vals.inj : ∀ {xs ys : List V} {us : List Value}, Vals xs us → Vals ys us → xs = ys
  | _, _, _, .nil, .nil => rfl
  | _, _, _, .cons r t, .cons r' t' => by rw [r.inj r', Vals.inj t t']
section
variable {X : Cx} {pins : List (Addr × Obj)} {σ : St} {H : Hp} {s : Shared} {a : Addr} {xs ys : List V}
theorem SqL.of {K : PySem.W.Frag} (h : H a = some (.lst xs)) : SqL K H a xs := .inl (.inl h)
theorem SqT.of {K : PySem.W.Frag} (h : H a = some (.tup xs)) : SqT K H a xs := .inl (.inl h)
theorem Inv.list (I : Inv X pins σ H s) (h : SqL X.K H a xs) : ∃ its : List Value, Vals xs its ∧ PlainL s.heap a its.toArray ∧ xs.length ≤ sizeLine := by
  rcases h with h | ⟨o, its, n, hk, hc, hd, hs, hz, r⟩
  · obtain ⟨z, its, n, r, e⟩ := h.ok I.hok
    exact ⟨its, r, ⟨_, n, e, rfl, rfl, rfl⟩, z⟩
  · refine ⟨its.toList, r, ⟨o, n, I.kIn a o hk, hc, hd, by simpa using hs⟩, ?_⟩
    have e := r.length
    simp only [Array.length_toList] at e
    omega
theorem Inv.tuple (I : Inv X pins σ H s) (h : SqT X.K H a xs) : ∃ its : List Value, Vals xs its ∧ IsTup s.heap a its.toArray ∧ xs.length ≤ sizeLine := by
  rcases h with h | ⟨o, its, n, hk, hc, hs, hz, r⟩
  · obtain ⟨z, its, r, p⟩ := h.ok I.hok
    exact ⟨its, r, p, z⟩
  · refine ⟨its.toList, r, ⟨o, I.kIn a o hk, hc, n, by simpa using hs⟩, ?_⟩
    have e := r.length
    simp only [Array.length_toList] at e
    omega
theorem Inv.list_inj (I : Inv X pins σ H s) (h : SqL X.K H a xs) (h' : SqL X.K H a ys) : xs = ys := by
  obtain ⟨its, r, ⟨o, n, e, _, _, d⟩, _⟩ := I.list h
  obtain ⟨its', r', ⟨o', n', e', _, _, d'⟩, _⟩ := I.list h'
  rw [e] at e'; cases e'
  rw [d] at d'
  injection d' with d1 _
  have : its = its' := by simpa using congrArg Array.toList d1
  subst this
  exact r.inj r'
theorem Inv.tuple_inj (I : Inv X pins σ H s) (h : SqT X.K H a xs) (h' : SqT X.K H a ys) : xs = ys := by
  obtain ⟨its, r, ⟨o, e, _, n, d⟩, _⟩ := I.tuple h
  obtain ⟨its', r', ⟨o', e', _, n', d'⟩, _⟩ := I.tuple h'
  rw [e] at e'; cases e'
  rw [d] at d'
  injection d' with d1 _
  have : its = its' := by simpa using congrArg Array.toList d1
  subst this
  exact r.inj r'
end

/-! ### another wish about exceptions -/
abbrev Cx.wish (X : Cx) (E : Value → Shared → Prop) : Cx := { X with xe := E }
/-- no exception leaves -/
abbrev Cx.nox (X : Cx) : Cx := X.wish fun _ _ => False
theorem Cx.Ok.wish {X : Cx} (ok : X.Ok) (E : Value → Shared → Prop) : (X.wish E).Ok :=
  ⟨ok.mod, ok.kind, ok.glob, ok.blt, ok.above, ok.inj, ok.has, ok.cab, ok.hd, ok.frames, ok.stk, ok.exf, ok.bs, ok.bsz, ok.noex, ok.exfs, ok.funs, ok.frf⟩
theorem Cx.Ok.unwish {X : Cx} {E : Value → Shared → Prop} (ok : (X.wish E).Ok) : X.Ok :=
  ⟨ok.mod, ok.kind, ok.glob, ok.blt, ok.above, ok.inj, ok.has, ok.cab, ok.hd, ok.frames, ok.stk, ok.exf, ok.bs, ok.bsz, ok.noex, ok.exfs, ok.funs, ok.frf⟩
section
variable {X : Cx} {pins : List (Addr × Obj)} {σ : St} {H : Hp} {s : Shared} {E : Value → Shared → Prop}
theorem Inv.wish (I : Inv X pins σ H s) (E : Value → Shared → Prop) : Inv (X.wish E) pins σ H s := ⟨I.ok.wish E, I.os, I.bare, I.base, I.loc, I.cell, I.free, I.freeC, I.pin, I.hok, I.len⟩
theorem Inv.unwish (I : Inv (X.wish E) pins σ H s) : Inv X pins σ H s := ⟨I.ok.unwish, I.os, I.bare, I.base, I.loc, I.cell, I.free, I.freeC, I.pin, I.hok, I.len⟩
theorem SP.unwish {D : Ends} {f : Flow} {s' : Shared} (h : SP (X.wish E) pins D f s') : SP X pins D f s' := by
  cases f with
  | next => obtain ⟨σ', H', I, q⟩ := h; exact ⟨σ', H', I.unwish, q⟩
  | brk => obtain ⟨σ', H', I, q⟩ := h; exact ⟨σ', H', I.unwish, q⟩
  | cont => obtain ⟨σ', H', I, q⟩ := h; exact ⟨σ', H', I.unwish, q⟩
  | ret u => obtain ⟨v, σ', H', I, r, q⟩ := h; exact ⟨v, σ', H', I.unwish, r, q⟩
theorem PE.nox {e : Expr} {t : TE} (h : PE X.nox e t) : PE X e t := fun pins s σ H Q I hw =>
  wpAny_mono (h pins s σ H Q (I.wish _) hw) (fun _ _ ⟨v, H', I', r, q⟩ => ⟨v, H', I'.unwish, r, q⟩) fun _ _ z => False.elim z
theorem PT.nox {e : Expr} {t : TT} (h : PT X.nox e t) : PT X e t := fun pins s σ H Q I hw =>
  wpAny_mono (h pins s σ H Q (I.wish _) hw) (fun _ _ ⟨H', I', q⟩ => ⟨H', I'.unwish, q⟩) fun _ _ z => False.elim z
theorem PSs.nox {st : List Stmt} {t : TS} (h : PSs X.nox st t) : PSs X st t := fun pins s σ H D I hw =>
  wpAny_mono (h pins s σ H D (I.wish _) hw) (fun _ _ q => q.unwish) fun _ _ z => False.elim z
end

/-! ### blocks and small statements -/
section
variable {X : Cx} {st : Stmt} {rest : List Stmt} {t u : TS} {e : Expr} {te : TE} {pos : Pos}
def tNext : TS := fun D σ H => D.nx σ H
def tSeq (t u : TS) : TS := fun D σ H => t { D with nx := u D } σ H
theorem pss_nil : PSs X [] tNext := fun _ _ σ H _ I h => wpAny_execs_nil ⟨σ, H, I, h⟩
theorem pss_cons (h1 : PS X st t) (h2 : PSs X rest u) : PSs X (st :: rest) (tSeq t u) := by
  intro pins s σ H D I h
  refine wpAny_execs_cons (thn (h1 pins s σ H { D with nx := u D } I h) fun f s1 q => ?_)
  cases f with
  | next =>
    obtain ⟨σ', H', I', q⟩ := q
    exact h2 pins s1 σ' H' D I' q
  | ret v => exact q
  | brk => exact q
  | cont => exact q
theorem pss_one (h1 : PS X st t) : PSs X [st] t := by
  intro pins s σ H D I h
  refine wpAny_execs_cons (thn (h1 pins s σ H D I h) fun f s1 q => ?_)
  cases f with
  | next => exact wpAny_execs_nil q
  | ret v => exact q
  | brk => exact q
  | cont => exact q
def tBreak : TS := fun D σ H => D.bk σ H
def tCont : TS := fun D σ H => D.ct σ H
theorem ps_pass : PS X (.Pass pos) tNext := fun _ _ σ H _ I h => wpAny_Pass ⟨σ, H, I, h⟩
theorem ps_break : PS X (.Break pos) tBreak := fun _ _ σ H _ I h => wpAny_Break ⟨σ, H, I, h⟩
theorem ps_continue : PS X (.Continue pos) tCont := fun _ _ σ H _ I h => wpAny_Continue ⟨σ, H, I, h⟩
/-- in a def's body nothing is shown -/
theorem Inv.quiet {pins : List (Addr × Obj)} {σ : St} {H : Hp} {s : Shared} (I : Inv X pins σ H s) : interactive X.env = false := by simp [interactive, I.ok.kind]
/-- a docstring -/
theorem ps_doc {x j pos pos'} : PS X (.Expr (.Constant (.str x) j pos) pos') tNext := fun _ s σ H _ I h => wpAny_Expr (Calls.Constant_str (show SP X _ _ .next { s with toks := s.toks + 1 } from ⟨σ, H, I.tok _, h⟩)) I.quiet
/-- an expression whose value is dropped -/
def tDrop (te : TE) : TS := fun D σ H => te σ H fun _ H1 => D.nx σ H1
theorem ps_expr (he : PE X e te) (hs : swapsWith e none pos.line X.env = pure false := by rfl) : PS X (.Expr e pos) (tDrop te) := by
  intro pins s σ H D I h
  exact wpAny_Expr_any (thn (he pins s σ H _ I h) fun v s1 ⟨x, H1, I1, r1, q1⟩ => ⟨σ, H1, I1, q1⟩) I.quiet hs
def tRet (te : TE) : TS := fun D σ H => te σ H D.rt
theorem ps_ret (he : PE X e te) : PS X (.Return (some e) pos) (tRet te) := by
  intro pins s σ H D I h
  exact wpAny_Return_some (thn (he pins s σ H _ I h) fun v s1 ⟨x, H1, I1, r1, q1⟩ => ⟨x, σ, H1, I1, r1, q1⟩)
def tRetN : TS := fun D _ H => D.rt .non H
theorem ps_retN : PS X (.Return none pos) tRetN := fun _ _ σ H _ I h => wpAny_Return_none ⟨.non, σ, H, I, rfl, h⟩
def tIfS (c : TT) (t u : TS) : TS := fun D σ H => c σ H fun b H1 => if b = true then t D σ H1 else u D σ H1
theorem ps_if {c : Expr} {a b : List Stmt} {tc : TT} (hc : PT X c tc) (ha : PSs X a t) (hb : PSs X b u) : PS X (.If c a b pos) (tIfS tc t u) := by
  intro pins s σ H D I h
  refine wpAny_If (thn (hc pins s σ H _ I h) fun d s1 ⟨H1, I1, q1⟩ => ?_)
  cases d with
  | true => exact ha pins s1 σ H1 D I1 q1
  | false => exact hb pins s1 σ H1 D I1 q1
/-- code that the proof never comes to -/
def tNever : TS := fun _ _ _ => False
theorem ps_never : PS X st tNever := fun _ _ _ _ _ _ h => h.elim
theorem pss_never {sts : List Stmt} : PSs X sts tNever := fun _ _ _ _ _ _ h => h.elim
end

/-! ### targets -/
abbrev TG := V → St → Hp → (St → Hp → Prop) → Prop
abbrev TGs := List V → St → Hp → (St → Hp → Prop) → Prop
def PG (X : Cx) (target : Expr) (t : TG) : Prop :=
  ∀ (pins : List (Addr × Obj)) (s : Shared) (σ : St) (H : Hp) (v : V) (u : Value) (Q : St → Hp → Prop), Inv X pins σ H s → RelV v u → t v σ H Q →
    wpAny (model X.prog X.w) X.A (assign target X.env u) (fun _ s' => ∃ σ' H', Inv X pins σ' H' s' ∧ Q σ' H') X.xe s
/-- several targets, one after another -/
def PGs (X : Cx) (ts : List Expr) (t : TGs) : Prop :=
  ∀ (pins : List (Addr × Obj)) (s : Shared) (σ : St) (H : Hp) (vs : List V) (us : List Value) (Q : St → Hp → Prop), Inv X pins σ H s → Vals vs us → t vs σ H Q →
    wpAny (model X.prog X.w) X.A (assignInOrder ((assignEach ts X.env).map (·.2)) us) (fun _ s' => ∃ σ' H', Inv X pins σ' H' s' ∧ Q σ' H') X.xe s
/-- o[i] = v, by values -/
abbrev TSet := V → V → V → Hp → (Hp → Prop) → Prop
def PSet (X : Cx) (t : TSet) : Prop :=
  ∀ (pins : List (Addr × Obj)) (s : Shared) (σ : St) (H : Hp) (o i v : V) (ov iv u : Value) (Q : Hp → Prop), Inv X pins σ H s → RelV o ov → RelV i iv → RelV v u → t o i v H Q →
    wpAny (model X.prog X.w) X.A (setItem ov iv u) (fun _ s' => ∃ H', Inv X pins σ H' s' ∧ Q H') X.xe s
/-- a op= b, by values -/
abbrev TIp := V → V → Hp → VK → Prop
def PIp (X : Cx) (op : Operator) (t : TIp) : Prop :=
  ∀ (pins : List (Addr × Obj)) (s : Shared) (σ : St) (H : Hp) (x y : V) (v u : Value) (Q : VK), Inv X pins σ H s → RelV x v → RelV y u → t x y H Q →
    wpAny (model X.prog X.w) X.A (inplaceOp op v u) (EP X pins σ Q) X.xe s
section
variable {X : Cx} {pos : Pos}
def gName (i : Nat) : TG := fun v σ H Q => Q (σ.set i (some v)) H
theorem pg_name {i : Nat} {x : Str} (hN : X.N.Nodup) (hi : X.N[i]? = some x) (hx : Loc X.env.scope x) (hf : X.fn x = true ∨ X.env.scope.names.lookup x = some .local := by first | exact .inl rfl | exact .inr rfl | assumption) : PG X (.Name x pos) (gName i) := by
  intro pins s σ H v u Q I r h
  exact wpAny_assign_Name (store_ok I hN hi hx r (fun s' I' => ⟨_, H, I', h⟩) hf)
def gNil : TGs := fun vs σ H Q => vs = [] ∧ Q σ H
def gCons (t : TG) (u : TGs) : TGs := fun vs σ H Q => ∃ v r, vs = v :: r ∧ t v σ H fun σ' H' => u r σ' H' Q
theorem pgs_nil : PGs X [] gNil := by
  intro pins s σ H vs us Q I r h
  obtain ⟨e, h⟩ := h
  subst e
  cases r
  exact assignInOrder_nil ⟨σ, H, I, h⟩
theorem pgs_cons {e : Expr} {es : List Expr} {t : TG} {u : TGs} (h1 : PG X e t) (h2 : PGs X es u)
    (hs : (assignEach (e :: es) X.env).map (·.2) = assign e X.env :: (assignEach es X.env).map (·.2) := by rfl) : PGs X (e :: es) (gCons t u) := by
  intro pins s σ H vs us Q I r h
  obtain ⟨v, vr, e1, h⟩ := h
  subst e1
  cases r with
  | cons r rr =>
    rw [hs]
    refine assignInOrder_cons (thn (h1 pins s σ H _ _ _ I r h) fun _ s1 ⟨σ1, H1, I1, q1⟩ => ?_)
    exact h2 pins s1 σ1 H1 _ _ Q I1 rr q1
/-- (a, b, ..) = a tuple of that length -/
def gTup (K : PySem.W.Frag) (n : Nat) (t : TGs) : TG := fun v σ H Q => ∃ a xs, v = .ref a ∧ SqT K H a xs ∧ xs.length = n ∧ t xs σ H Q
theorem pg_tup {es : List Expr} {k : Nat} {t : TGs} {n : Nat} (hc : X.calm = true) (h : PGs X es t)
    (hn : (assignEach es X.env).length = n := by rfl) (hst : (assignEach es X.env).findIdx? (·.1) = none := by rfl) : PG X (.Tuple es k pos) (gTup X.K n t) := by
  intro pins s σ H v u Q I r hw
  obtain ⟨a, xs, e1, hq, hl, hw⟩ := hw
  subst e1
  cases r
  obtain ⟨its, rv, ht, hz⟩ := I.tuple hq
  refine assign_Tuple_tuple (I.ok.hd hc) ht (by simp [hn, ← hl, rv.length]) hst fun h' hx => ?_
  have I1 : Inv X pins σ H { s with heap := h' } := I.kept (t' := s.toks) fun b o e => hx b o (Nat.ne_of_lt (Heap.lt_size e)) e
  exact h pins _ σ H xs _ Q I1 (by simpa using rv) hw
/-- o[i] = .. -/
def gSub (to ti : TE) (t : TSet) : TG := fun v σ H Q => to σ H fun o H1 => ti σ H1 fun i H2 => t o i v H2 fun H3 => Q σ H3
theorem pg_sub {o i : Expr} {to ti : TE} {t : TSet} (ho : PE X o to) (hi : PE X i ti) (hs : PSet X t)
    (ha : ∀ v, assign (.Subscript o i pos) X.env v = (do
      let ov ← holding [v] (eval o X.env)
      let iv ← holding [v, ov] (eval i X.env)
      standAt pos
      holding [v, ov, iv] (setItem ov iv v)
      release [v, ov, iv] []) := by intro _; rfl) : PG X (.Subscript o i pos) (gSub to ti t) := by
  intro pins s σ H v u Q I r h
  rw [ha]
  refine wpAny_bind (wpAny_holding (thn (ho pins s σ H _ I h) fun ov s1 ⟨x, H1, I1, r1, q1⟩ => ?_))
  refine wpAny_bind (wpAny_holding (thn (hi pins s1 σ H1 _ I1 q1) fun iv s2 ⟨y, H2, I2, r2, q2⟩ => ?_))
  refine wpAny_bind (wpAny_standAt (wpAny_bind (wpAny_holding (thn (hs pins s2 σ H2 x y v ov iv u _ I2 r1 r2 r q2) fun _ s3 ⟨H3, I3, q3⟩ => ?_))))
  exact wpAny_release ⟨σ, H3, I3, q3⟩
/-- target = value -/
def tAsg (te : TE) (g : TG) : TS := fun D σ H => te σ H fun x H1 => g x σ H1 D.nx
theorem ps_asg {tg e : Expr} {te : TE} {g : TG} (he : PE X e te) (hg : PG X tg g) (hs : swapsWithSole [tg] e pos.line X.env = pure false := by rfl) (hw : swappedStores [tg] e X.env = pure none := by rfl)
    (h1 : (assignEach [tg] X.env).map (·.2) = [assign tg X.env] := by rfl) : PS X (.Assign [tg] e pos) (tAsg te g) := by
  intro pins s σ H D I h
  refine wpAny_Assign_stores (thn (he pins s σ H _ I h) fun v s1 ⟨x, H1, I1, r1, q1⟩ => ?_) hs hw
  rw [h1]
  exact thn (hg pins s1 σ H1 x v _ I1 r1 q1) fun _ s2 q => q
/-- name = value -/
theorem ps_set {i : Nat} {x : Str} {e : Expr} {te : TE} {pos' : Pos} (hN : X.N.Nodup) (hi : X.N[i]? = some x) (hx : Loc X.env.scope x) (he : PE X e te) (hs : swapsWith e (some (.Name x pos')) pos.line X.env = pure false := by rfl) (hf : X.fn x = true ∨ X.env.scope.names.lookup x = some .local := by first | exact .inl rfl | exact .inr rfl | assumption) :
    PS X (.Assign [.Name x pos'] e pos) (tAsg te (gName i)) := by
  intro pins s σ H D I h
  refine wpAny_Assign_Name (thn (he pins s σ H _ I h) fun v s1 ⟨y, H1, I1, r1, q1⟩ => ?_) hs
  exact store_ok I1 hN hi hx r1 (fun s2 I2 => ⟨_, H1, I2, q1⟩) hf
/-- a, b = x, y with plain local names: stored from the right; the pair itself is not tracked (the opening rows as in PyProof/Rows/TupAssign.lean:23) -/
def tPar (i j : Nat) (ta : TA) : TS := fun D σ H => ta σ H fun vs H1 => ∃ v w, vs = [v, w] ∧ D.nx ((σ.set i (some v)).set j (some w)) H1
theorem ps_par {i j : Nat} {x y : Str} {a b : Expr} {ta : TA} {px py pt : Pos} {kt k2 pt2} (hc : X.calm = true) (hN : X.N.Nodup) (hi : X.N[i]? = some x) (hj : X.N[j]? = some y) (hij : i ≠ j)
    (hx : X.env.scope.names.lookup x = some .local) (hy : X.env.scope.names.lookup y = some .local) (ha : PA X [a, b] ta)
    (hw : swappedStores [.Tuple [.Name x px, .Name y py] kt pt] (.Tuple [a, b] k2 pt2) X.env = pure (some [x, y]))
    (hs : swapsWithSole [.Tuple [.Name x px, .Name y py] kt pt] (.Tuple [a, b] k2 pt2) pos.line X.env = pure false := by rfl) :
    PS X (.Assign [.Tuple [.Name x px, .Name y py] kt pt] (.Tuple [a, b] k2 pt2) pos) (tPar i j ta) := by
  intro pins s σ H D I h
  rw [exec_Assign_arm]
  refine wpAny_bind (wpAny_standAt ?_)
  rw [hs]
  refine wpAny_bind (wpAny_pure ?_)
  rw [if_neg (by decide)]
  refine wpAny_bind (Tuple_ (thn (ha _ pins s σ H _ I h) fun us s1 ⟨vs, H1, I1, r1, q1⟩ => ?_))
  obtain ⟨v, w, e1, q1⟩ := q1
  subst e1
  obtain ⟨u1, u2, rfl, rv, rw'⟩ : ∃ u1 u2, us = [u1, u2] ∧ RelV v u1 ∧ RelV w u2 := by
    cases r1 with
    | cons p q =>
      cases q with
      | cons p' q' =>
        cases q'
        exact ⟨_, _, rfl, p, p'⟩
  refine wpAny_newObj_type ?_ (by show 2 ≤ sizeLine; decide)
  have I2 : Inv X pins σ H1 { s1 with heap := s1.heap.push { cls := .type "tuple", data := .seq [u1, u2].toArray } } := I1.kept (t' := s1.toks) fun b o e => Heap.get?_push_of_some _ e
  rw [hw]
  refine wpAny_bind (wpAny_pure ?_)
  show wpAny (model X.prog X.w) X.A (do rule "assign.swapped-stores"; let items ← unpackItems (.ref s1.heap.objs.size) 2 none; assignInOrder [fun v => bindName X.env y v, fun v => bindName X.env x v] items.reverse; pure Flow.next) _ _ _
  refine wpAny_bind (wpAny_rule (wpAny_bind (unpackItems_tuple (items := #[u1, u2]) (I.ok.hd hc) (IsTup.new s1.heap _) fun h' hx' => ?_)))
  have I3 := I2.kept (h' := h') (t' := s1.toks) fun b o e => hx' b o (Nat.ne_of_lt (Heap.lt_size e)) e
  show wpAny _ _ (assignInOrder [fun v => bindName X.env y v, fun v => bindName X.env x v] [u2, u1] >>= fun _ => pure Flow.next) _ _ _
  refine wpAny_bind (assignInOrder_cons (wpAny_bindName (store_ok I3 hN hj (.inl hy) rw' (fun s2 I4 => ?_) (.inr hy))))
  refine assignInOrder_cons (wpAny_bindName (store_ok I4 hN hi (.inl hx) rv (fun s3 I5 => assignInOrder_nil (wpAny_pure ?_)) (.inr hx)))
  rw [List.set_comm _ _ (Ne.symm hij)] at I5
  exact ⟨_, H1, I5, q1⟩
/-- name op= e -/
def tAug (i : Nat) (te : TE) (ti : TIp) : TS := fun D σ H => ∃ x, σ[i]? = some (some x) ∧ te σ H fun y H1 => ti x y H1 fun z H2 => D.nx (σ.set i (some z)) H2
theorem ps_aug {i : Nat} {x : Str} {e : Expr} {te : TE} {op : Operator} {ti : TIp} {pos' : Pos} (hN : X.N.Nodup) (hi : X.N[i]? = some x) (hx : Loc X.env.scope x) (he : PE X e te) (ho : PIp X op ti) (hf : X.fn x = true ∨ X.env.scope.names.lookup x = some .local := by first | exact .inl rfl | exact .inr rfl | assumption) :
    PS X (.AugAssign (.Name x pos') op e pos) (tAug i te ti) := by
  intro pins s σ H D I h
  obtain ⟨v, e1, h⟩ := h
  obtain ⟨m, hn, hl⟩ := I.loc
  have vis : Vis X.env.scope x := by rcases hx with k | k; exact .inl k; exact .inr (.inl k)
  obtain ⟨u, r, l⟩ := hl i x v hi e1 vis
  refine wpAny_AugAssign_Name ?_
  have go : wpAny (model X.prog X.w) X.A (eval e X.env) (fun w s₂ => wpAny (model X.prog X.w) X.A (inplaceOp op u w) (fun r s₃ => wpAny (model X.prog X.w) X.A (storeName X.env x r) (fun _ => SP X pins D .next) X.xe s₃) X.xe s₂) X.xe s := by
    refine thn (he pins s σ H _ I h) fun w s1 ⟨y, H1, I1, r1, q1⟩ => ?_
    refine thn (ho pins s1 σ H1 v y u w _ I1 r r1 q1) fun z s2 ⟨zv, H2, I2, r2, q2⟩ => ?_
    exact store_ok I2 hN hi hx r2 (fun s3 I3 => ⟨_, H2, I3, q2⟩) hf
  rcases l with ⟨hk, hm⟩ | ⟨hk, c, hc, hcell⟩
  · exact wpAny_loadName_local I.ok.kind hk hn hm go
  · rcases hk with hk | hk
    · exact wpAny_loadName_cell I.ok.kind hk hc hcell go
    · rcases hx with k | k
      · have : X.env.scope.names.lookup x = some .free := hk
        rw [k] at this; cases this
      · have : X.env.scope.names.lookup x = some .free := hk
        rw [k] at this; cases this
/-- o[i] op= e -/
def tAugS (to ti te : TE) (tget : V → V → Hp → VK → Prop) (tip : TIp) (tset : TSet) : TS := fun D σ H => to σ H fun o H1 => ti σ H1 fun i H2 => tget o i H2 fun x H3 => te σ H3 fun y H4 => tip x y H4 fun z H5 => tset o i z H5 fun H6 => D.nx σ H6
/-- o[i], by values -/
def PGet (X : Cx) (t : V → V → Hp → VK → Prop) : Prop :=
  ∀ (pins : List (Addr × Obj)) (s : Shared) (σ : St) (H : Hp) (o i : V) (ov iv : Value) (Q : VK), Inv X pins σ H s → RelV o ov → RelV i iv → t o i H Q →
    wpAny (model X.prog X.w) X.A (getItem ov iv) (EP X pins σ Q) X.xe s
theorem ps_augS {o i e : Expr} {to ti te : TE} {tget : V → V → Hp → VK → Prop} {tip : TIp} {tset : TSet} {op : Operator} {tpos : Pos} (ho : PE X o to) (hi : PE X i ti) (hg : PGet X tget) (he : PE X e te) (hp : PIp X op tip) (hs : PSet X tset)
    (ha : ∀ ov iv new, augStore i ov iv new = (do holding [new, ov, iv] (setItem ov iv new); release [new, ov, iv] []; pure .next) := by intros; rfl) : PS X (.AugAssign (.Subscript o i tpos) op e pos) (tAugS to ti te tget tip tset) := by
  intro pins s σ H D I h
  refine wpAny_AugAssign_SubscriptAny (thn (ho pins s σ H _ I h) fun ov s1 ⟨x1, H1, I1, r1, q1⟩ => ?_) ha
  refine thn (hi pins s1 σ H1 _ I1 q1) fun iv s2 ⟨x2, H2, I2, r2, q2⟩ => ?_
  refine thn (hg pins s2 σ H2 x1 x2 ov iv _ I2 r1 r2 q2) fun old s3 ⟨x3, H3, I3, r3, q3⟩ => ?_
  refine thn (he pins s3 σ H3 _ I3 q3) fun v s4 ⟨x4, H4, I4, r4, q4⟩ => ?_
  refine thn (hp pins s4 σ H4 x3 x4 old v _ I4 r3 r4 q4) fun new s5 ⟨x5, H5, I5, r5, q5⟩ => ?_
  exact thn (hs pins s5 σ H5 x1 x2 x5 ov iv new _ I5 r1 r2 r5 q5) fun _ s6 ⟨H6, I6, q6⟩ => ⟨σ, H6, I6, q6⟩
/-- ints -/
def ipI (f : Int → Int → Int) : TIp := fun x y H Q => ∃ i j, x = .int i ∧ y = .int j ∧ Q (.int (f i j)) H
theorem ip_add : PIp X .Add (ipI fun i j => i + j) := by
  intro pins s σ H x y v u Q I r1 r2 h
  obtain ⟨i, j, e1, e2, q⟩ := h
  subst e1; subst e2
  obtain ⟨t, rfl⟩ := r1
  obtain ⟨t', rfl⟩ := r2
  exact iadd_int ⟨.int _, H, I.tok _, ⟨_, rfl⟩, q⟩
theorem ip_sub : PIp X .Sub (ipI fun i j => i - j) := by
  intro pins s σ H x y v u Q I r1 r2 h
  obtain ⟨i, j, e1, e2, q⟩ := h
  subst e1; subst e2
  obtain ⟨t, rfl⟩ := r1
  obtain ⟨t', rfl⟩ := r2
  exact isub_int ⟨.int _, H, I.tok _, ⟨_, rfl⟩, q⟩
end

/-! ### while -/
section
variable {X : Cx} {pos : Pos}
/-- the invariant W with its measure -/
def tWhile (c : TT) (tb : TS) : TS := fun D σ H => ∃ W : Nat → St → Hp → Prop, (∃ m, W m σ H) ∧ ∀ m σ H, W m σ H →
  c σ H fun b H1 => if b = true then ∃ N : St → Hp → Prop, (∀ σ' H', N σ' H' → ∃ m', m' < m ∧ W m' σ' H') ∧ tb { D with nx := N, ct := N, bk := D.nx } σ H1 else D.nx σ H1
theorem ps_while {c : Expr} {body : List Stmt} {tc : TT} {tb : TS} (hp : PassesOwn (model X.prog X.w) X.A X.env X.xe) (hc : PT X c tc) (hb : PSs X body tb) : PS X (.While c body [] pos) (tWhile tc tb) := by
  intro pins s σ H D I h
  obtain ⟨W, ⟨m0, w0⟩, turn⟩ := h
  refine wpAny_While (codeAny_whileLoop (fun n s' => ∃ σ' H', Inv X pins σ' H' s' ∧ W n σ' H') ?_ m0 ⟨σ, H, I, w0⟩)
  rintro n s1 ⟨σ1, H1, I1, w1⟩
  refine wpAny_passesOwn hp (thn (hc pins s1 σ1 H1 _ I1 (turn n σ1 H1 w1)) fun b s2 ⟨H2, I2, q2⟩ => ?_)
  cases b with
  | true =>
    obtain ⟨N, hN, q2⟩ := q2
    rw [if_pos rfl]
    refine wpAny_passesOwn hp (thn (hb pins s2 σ1 H2 _ I2 q2) fun f s3 q3 => ?_)
    cases f with
    | next =>
      obtain ⟨σ3, H3, I3, n3⟩ := q3
      obtain ⟨m', hm, w3⟩ := hN σ3 H3 n3
      exact ⟨m', hm, σ3, H3, I3, w3⟩
    | cont =>
      obtain ⟨σ3, H3, I3, n3⟩ := q3
      obtain ⟨m', hm, w3⟩ := hN σ3 H3 n3
      exact ⟨m', hm, σ3, H3, I3, w3⟩
    | brk => exact q3
    | ret v => exact q3
  | false =>
    rw [if_neg Bool.false_ne_true]
    exact wpAny_execs_nil ⟨σ1, H2, I2, q2⟩
end

/-! ### what a loop or a comprehension walks -/
/-- at turn i: it yields x (the heap may grow), or it stops -/
structure It where
  go : Nat → Hp → Prop
  yld : Nat → Hp → V → Hp → Prop
  stop : Nat → Hp → Prop
/-- the iterator's own objects may turn: they are not the frame's, not pinned, younger than the entry (or a comprehension's own) -/
def FpOk (X : Cx) (pins : List (Addr × Obj)) (H : Hp) (b : Addr) : Prop :=
  H b = none ∧ b ≠ X.env.locals ∧ b ∉ X.fs ∧ (b ∈ X.ex ∨ X.s₀.heap.objs.size ≤ b) ∧ (∀ x c, X.env.cells.lookup x = some c → c ≠ b) ∧ ∀ p ∈ X.pn ++ pins, p.1 ≠ b
theorem Inv.fpOk {X : Cx} {pins : List (Addr × Obj)} {σ : St} {H H' : Hp} {s : Shared} {b : Addr} (I : Inv X pins σ H s) (hb : s.heap.objs.size ≤ b) (hn : H' b = none) : FpOk X pins H' b := by
  refine ⟨hn, Nat.ne_of_gt (Nat.lt_of_lt_of_le I.lt hb), I.nofs hb, .inr (Nat.le_trans I.sz hb), fun x c e z => ?_, fun p hp z => ?_⟩
  · obtain ⟨v, q⟩ := I.cell x c e
    exact absurd (Nat.lt_of_lt_of_le q.lt (by rw [z]; exact hb)) (Nat.lt_irrefl _)
  · exact absurd (Nat.lt_of_lt_of_le (Heap.lt_size (I.pin p hp).1) (by rw [z]; exact hb)) (Nat.lt_irrefl _)
structure Turn (P : Program) (w : World) (K : PySem.W.Frag) (tg : Expr) (J : It) (fp : List Addr) (it : Addr) (tn : Nat → Heap → Prop) : Prop where
  mem : it ∈ fp
  obj : ∀ i h, tn i h → ∀ b ∈ fp, ∃ o, h.get? b = some o ∧ ∀ v, o.data ≠ .cell v
  keep : ∀ i h h', tn i h → (∀ b ∈ fp, ∀ o, h.get? b = some o → h'.get? b = some o) → tn i h'
  item : ∀ (X : Cx), X.prog = P → X.w = w → X.K = K → X.calm = true → ∀ (i : Nat) (pins : List (Addr × Obj)) (s : Shared) (σ : St) (H : Hp) (E : Value → Shared → Prop), Inv X pins σ H s → (∀ b ∈ fp, FpOk X pins H b) → tn i s.heap → J.go i H →
    wpAny (model P w) X.A (pyNext (.ref it)) (fun r s1 => ∃ u, r = some u ∧
      wpAny (model P w) X.A (letOwnedTupleGo tg (.ref it) u) (fun _ s2 => ∃ x H', Inv X pins σ H' s2 ∧ RelV x u ∧ J.yld i H x H' ∧ tn (i + 1) s2.heap ∧ ∀ b ∈ fp, H' b = none) E s1) E s
  done : ∀ (X : Cx), X.prog = P → X.w = w → X.K = K → X.calm = true → ∀ (i : Nat) (pins : List (Addr × Obj)) (s : Shared) (σ : St) (H : Hp) (E : Value → Shared → Prop), Inv X pins σ H s → (∀ b ∈ fp, FpOk X pins H b) → tn i s.heap → J.stop i H →
    wpAny (model P w) X.A (pyNext (.ref it)) (fun r s1 => r = none ∧ Inv X pins σ H s1) E s
  self : ∀ (A : Around) (i : Nat) (s : Shared) (Q : Value → Shared → Prop) (E : Value → Shared → Prop), tn i s.heap → Q (.ref it) s → wpAny (model P w) A (pyIter (.ref it)) Q E s
abbrev TI := St → Hp → (It → Hp → Prop) → Prop
/-- an iterator has come -/
def PIE (X : Cx) (pins : List (Addr × Obj)) (σ : St) (tg : Expr) (R : It → Hp → Prop) (itv : Value) (s2 : Shared) : Prop :=
  ∃ (it : Addr) (fp : List Addr) (tn : Nat → Heap → Prop) (J : It) (H' : Hp), itv = .ref it ∧ Inv X pins σ H' s2 ∧ Turn X.prog X.w X.K tg J fp it tn ∧ tn 0 s2.heap ∧ (∀ b ∈ fp, FpOk X pins H' b) ∧ R J H'
def PI (X : Cx) (tg iter : Expr) (wi : TI) : Prop :=
  ∀ (pins : List (Addr × Obj)) (s : Shared) (σ : St) (H : Hp) (R : It → Hp → Prop), Inv X pins σ H s → wi σ H R →
    wpAny (model X.prog X.w) X.A (eval iter X.env) (fun v s1 => wpAny (model X.prog X.w) X.A (pyIter v) (PIE X pins σ tg R) X.xe s1) X.xe s

/-- the step ahead of the store is nothing for an iterator that keeps no tuple -/
theorem go_of {M : Model} {A : Around} {E : Value → Shared → Prop} {s : Shared} {tg : Expr} {it : Addr} {u : Value} {o : Obj} {n : String} {vs : Array Value} {Q : Unit → Shared → Prop} (ho : s.heap.get? it = some o) (hc : o.cls = .type n) (hd : o.data = .fields vs)
    (hn : ["enumerate", "zip", "dict_itemiterator", "dict_reverseitemiterator", "odict_iterator", "itertools.zip_longest", "itertools.pairwise"].contains n = false) (hQ : Q () s) : wpAny M A (letOwnedTupleGo tg (.ref it) u) Q E s := by
  unfold letOwnedTupleGo
  cases tg <;> first
    | exact wpAny_pure hQ
    | (cases u <;> first
        | exact wpAny_pure hQ
        | (refine wpAny_bind (wpAny_load ho ?_)
           rw [hc, hd]
           show wpAny M A (if (["enumerate", "zip", "dict_itemiterator", "dict_reverseitemiterator", "odict_iterator", "itertools.zip_longest", "itertools.pairwise"].contains n && vs[0]? == some (rawInt _)) = true then _ else _) Q E s
           rw [if_neg (by intro h; rw [hn, Bool.false_and] at h; cases h)]
           exact wpAny_pure hQ))

/-- the list at a, as it stands at each turn (a loop may append to it) -/
def Itl (K : PySem.W.Frag) (a : Addr) : It :=
  ⟨fun i H => ∃ xs x, SqL K H a xs ∧ xs[i]? = some x, fun i H x H' => H' = H ∧ ∀ xs, SqL K H a xs → xs[i]? = some x, fun i H => ∃ xs, SqL K H a xs ∧ xs.length ≤ i⟩
def Itt (K : PySem.W.Frag) (a : Addr) : It :=
  ⟨fun i H => ∃ xs x, SqT K H a xs ∧ xs[i]? = some x, fun i H x H' => H' = H ∧ ∀ xs, SqT K H a xs → xs[i]? = some x, fun i H => ∃ xs, SqT K H a xs ∧ xs.length ≤ i⟩
/-- lo, lo + 1, .. (n of them) -/
def Itr (lo : Int) (n : Nat) : It := ⟨fun i _ => i < n, fun i H x H' => H' = H ∧ x = .int (lo + i), fun i _ => n ≤ i⟩
theorem turn_list {P : Program} {w : World} {K : PySem.W.Frag} {tg : Expr} (a it : Addr) : Turn P w K tg (Itl K a) [it] it (fun i h => h.IsListIter it a i) where
  mem := by simp
  obj := fun i h st b hb => by
    have e : b = it := by simpa using hb
    subst e
    obtain ⟨o, e, c, d⟩ := st
    exact ⟨o, e, fun v z => by rw [d] at z; cases z⟩
  keep := fun i h h' st k => st.at fun o e => k it (by simp) o e
  item := by
    intro X hP hw hK hc i pins s σ H E I hf st hg
    subst hP hw hK
    obtain ⟨xs, x, hq, hx⟩ := hg
    obtain ⟨its, rv, p, hz⟩ := I.list hq
    obtain ⟨u, hu, ru⟩ := rv.get hx
    obtain ⟨f0, f1, f2, f3, f4, f5⟩ := hf it (by simp)
    refine wpAny_pyNext_list_item st p.isList (x := u) (by simpa using hu) fun h' st' sb => ?_
    have I1 : Inv X pins σ H { s with heap := h' } := I.turned (t' := s.toks) (fun b o hb e => (sb.2 b hb).trans e) f0 f1 f3 f4 f5
    obtain ⟨o, e, c, d⟩ := id st'
    exact ⟨u, rfl, go_of (s := { s with heap := h' }) e c d (by decide) ⟨x, H, I1, ru, ⟨rfl, fun ys hy => by rw [I.list_inj hy hq]; exact hx⟩, st', fun b hb => (hf b hb).1⟩⟩
  done := by
    intro X hP hw hK hc i pins s σ H E I hf st hg
    subst hP hw hK
    obtain ⟨xs, hq, hx⟩ := hg
    obtain ⟨its, rv, p, hz⟩ := I.list hq
    obtain ⟨f0, f1, f2, f3, f4, f5⟩ := hf it (by simp)
    have hl := rv.length
    exact wpAny_pyNext_list_end (I.ok.hd hc) st p.isList (by simp; omega) fun h' eb => ⟨rfl, I.turned (t' := s.toks) (fun b o hb e => eb b o hb e) f0 f1 f3 f4 f5⟩
  self := fun _ _ _ _ _ st h => wpAny_pyIter_listiter st h
theorem turn_tuple {P : Program} {w : World} {K : PySem.W.Frag} {tg : Expr} (a it : Addr) : Turn P w K tg (Itt K a) [it] it (fun i h => h.IsTupleIter it a i) where
  mem := by simp
  obj := fun i h st b hb => by
    have e : b = it := by simpa using hb
    subst e
    obtain ⟨o, e, c, d⟩ := st
    exact ⟨o, e, fun v z => by rw [d] at z; cases z⟩
  keep := fun i h h' st k => st.at fun o e => k it (by simp) o e
  item := by
    intro X hP hw hK hc i pins s σ H E I hf st hg
    subst hP hw hK
    obtain ⟨xs, x, hq, hx⟩ := hg
    obtain ⟨its, rv, p, hz⟩ := I.tuple hq
    obtain ⟨u, hu, ru⟩ := rv.get hx
    obtain ⟨f0, f1, f2, f3, f4, f5⟩ := hf it (by simp)
    refine wpAny_pyNext_tuple_item st (show s.heap.IsTuple a its.toArray from p) (x := u) (by simpa using hu) fun h' st' sb => ?_
    have I1 : Inv X pins σ H { s with heap := h' } := I.turned (t' := s.toks) (fun b o hb e => (sb.2 b hb).trans e) f0 f1 f3 f4 f5
    obtain ⟨o, e, c, d⟩ := id st'
    exact ⟨u, rfl, go_of (s := { s with heap := h' }) e c d (by decide) ⟨x, H, I1, ru, ⟨rfl, fun ys hy => by rw [I.tuple_inj hy hq]; exact hx⟩, st', fun b hb => (hf b hb).1⟩⟩
  done := by
    intro X hP hw hK hc i pins s σ H E I hf st hg
    subst hP hw hK
    obtain ⟨xs, hq, hx⟩ := hg
    obtain ⟨its, rv, p, hz⟩ := I.tuple hq
    obtain ⟨f0, f1, f2, f3, f4, f5⟩ := hf it (by simp)
    have hl := rv.length
    exact wpAny_pyNext_tuple_end (I.ok.hd hc) st (show s.heap.IsTuple a its.toArray from p) (by simp; omega) fun h' eb => ⟨rfl, I.turned (t' := s.toks) (fun b o hb e => eb b o hb e) f0 f1 f3 f4 f5⟩
  self := fun _ _ _ _ _ st h => wpAny_pyIter_tupleiter st h
theorem turn_range {P : Program} {w : World} {K : PySem.W.Frag} {tg : Expr} (it : Addr) (lo : Int) (n : Nat) : Turn P w K tg (Itr lo n) [it] it (fun i h => IsRangeIter h it (lo + (i : Nat) * 1) ((n : Int) - (i : Nat)) 1) where
  mem := by simp
  obj := fun i h st b hb => by
    have e : b = it := by simpa using hb
    subst e
    exact ⟨_, st, fun v z => by
      have z' : Data.fields _ = Data.cell v := z
      cases z'⟩
  keep := fun i h h' st k => k it (by simp) _ st
  item := by
    intro X hP hw hK hc i pins s σ H E I hf st hg
    subst hP hw hK
    obtain ⟨f0, f1, f2, f3, f4, f5⟩ := hf it (by simp)
    have W := Walks.range (prog := X.prog) (w := X.w) (I.ok.hd hc) it lo 1 n
    refine W.item i s _ _ hg st fun v h' tk hv st' kk => ?_
    obtain ⟨t, rfl⟩ := hv
    have I1 : Inv X pins σ H { s with heap := h', toks := tk } := I.turned (fun b o hb e => kk b o (by simpa using hb) e) f0 f1 f3 f4 f5
    refine ⟨_, rfl, go_of (s := { s with heap := h', toks := tk }) (n := "range_iterator") st' rfl rfl (by decide) ⟨.int (lo + i), H, I1, ⟨t, ?_⟩, ⟨rfl, rfl⟩, st', fun b hb => (hf b hb).1⟩⟩
    rw [Int.mul_one]
  done := by
    intro X hP hw hK hc i pins s σ H E I hf st hg
    subst hP hw hK
    obtain ⟨f0, f1, f2, f3, f4, f5⟩ := hf it (by simp)
    exact wpAny_pyNext_range_end (I.ok.hd hc) st (by have : n ≤ i := hg; omega) fun h' eb => ⟨rfl, I.turned (t' := s.toks) (fun b o hb e => eb b o hb e) f0 f1 f3 f4 f5⟩
  self := fun _ _ _ _ _ st h => wpAny_pyIter_rangeiter st h
end L2

namespace L2
open PySem PySem.Spec PyProof.Rows
section
variable {X : Cx} {tg : Expr}
def iList (K : PySem.W.Frag) (tl : TE) : TI := fun σ H R => tl σ H fun x H1 => ∃ a, x = .ref a ∧ (∃ xs, SqL K H1 a xs) ∧ R (Itl K a) H1
def iTup (K : PySem.W.Frag) (tl : TE) : TI := fun σ H R => tl σ H fun x H1 => ∃ a, x = .ref a ∧ (∃ xs, SqT K H1 a xs) ∧ R (Itt K a) H1
theorem pi_list {l : Expr} {tl : TE} (hl : PE X l tl) : PI X tg l (iList X.K tl) := by
  intro pins s σ H R I h
  refine thn (hl pins s σ H _ I h) fun v s1 ⟨x, H1, I1, r1, q1⟩ => ?_
  obtain ⟨a, e, ⟨xs, hq⟩, q⟩ := q1
  subst e
  cases r1
  obtain ⟨its, rv, p, hz⟩ := I1.list hq
  refine wpAny_pyIter_list p.isList ?_
  refine ⟨s1.heap.objs.size, [s1.heap.objs.size], _, _, H1, rfl, I1.kept (t' := s1.toks) fun b o e => Heap.get?_push_of_some _ e, turn_list a _, ⟨_, Heap.get?_push_size _ rfl, rfl, rfl⟩, fun b hb => ?_, q⟩
  have e : b = s1.heap.objs.size := by simpa using hb
  subst e
  exact I1.fpOk (Nat.le_refl _) (I1.hok.fresh (Nat.le_refl _))
theorem pi_tup {l : Expr} {tl : TE} (hl : PE X l tl) : PI X tg l (iTup X.K tl) := by
  intro pins s σ H R I h
  refine thn (hl pins s σ H _ I h) fun v s1 ⟨x, H1, I1, r1, q1⟩ => ?_
  obtain ⟨a, e, ⟨xs, hq⟩, q⟩ := q1
  subst e
  cases r1
  obtain ⟨its, rv, p, hz⟩ := I1.tuple hq
  refine wpAny_pyIter_tuple (show s1.heap.IsTuple a its.toArray from p) ?_
  refine ⟨s1.heap.objs.size, [s1.heap.objs.size], _, _, H1, rfl, I1.kept (t' := s1.toks) fun b o e => Heap.get?_push_of_some _ e, turn_tuple a _, ⟨_, Heap.get?_push_size _ rfl, rfl, rfl⟩, fun b hb => ?_, q⟩
  have e : b = s1.heap.objs.size := by simpa using hb
  subst e
  exact I1.fpOk (Nat.le_refl _) (I1.hok.fresh (Nat.le_refl _))
/-- a range object just made, walked -/
theorem range_it {pins : List (Addr × Obj)} {σ : St} {H : Hp} {s : Shared} {R : It → Hp → Prop} {E : Value → Shared → Prop} {lo hi : Int} {t u v : Tok} {tk : Nat} (I : Inv X pins σ H s) (h1 : -(2 ^ 62) ≤ lo) (h2 : lo < 2 ^ 62) (h3 : -(2 ^ 62) ≤ hi) (h4 : hi < 2 ^ 62)
    (q : R (Itr lo (hi - lo).toNat) H) : wpAny (model X.prog X.w) X.A (pyIter (.ref s.heap.objs.size)) (PIE X pins σ tg R) E { s with heap := s.heap.push { cls := .type "range", data := .fields #[.int lo t, .int hi u, .int 1 v] }, toks := tk } := by
  refine wpAny_pyIter_range (IsRange.new ..) (small_one h1 h2 h3 h4) ?_
  have I1 : Inv X pins σ H { s with heap := s.heap.push { cls := .type "range", data := .fields #[.int lo t, .int hi u, .int 1 v] }, toks := tk } := I.kept fun b o e => Heap.get?_push_of_some _ e
  refine ⟨(s.heap.push { cls := .type "range", data := .fields #[.int lo t, .int hi u, .int 1 v] }).objs.size, [(s.heap.push { cls := .type "range", data := .fields #[.int lo t, .int hi u, .int 1 v] }).objs.size], _, _, H, rfl,
    I1.kept (t' := tk) fun b o e => Heap.get?_push_of_some _ e, turn_range _ lo (hi - lo).toNat, ?_, fun b hb => ?_, q⟩
  · have e1 : lo + ((0 : Nat) : Int) * 1 = lo := by simp
    have e2 : (((hi - lo).toNat : Nat) : Int) - ((0 : Nat) : Int) = Builtin.Range.rangeSize lo hi 1 := by rw [rangeSize_one]; split <;> omega
    show IsRangeIter _ _ (lo + ((0 : Nat) : Int) * 1) ((((hi - lo).toNat : Nat) : Int) - ((0 : Nat) : Int)) 1
    rw [e1, e2]
    exact Heap.get?_push_size _ rfl
  · have e : b = (s.heap.push { cls := .type "range", data := .fields #[.int lo t, .int hi u, .int 1 v] }).objs.size := by simpa using hb
    subst e
    exact I1.fpOk (Nat.le_refl _) (I1.hok.fresh (Nat.le_refl _))
def iRng1 (ta : TA) : TI := fun σ H R => ta σ H fun vs H1 => ∃ j : Int, vs = [.int j] ∧ -(2 ^ 62) ≤ j ∧ j < 2 ^ 62 ∧ R (Itr 0 j.toNat) H1
def iRng2 (ta : TA) : TI := fun σ H R => ta σ H fun vs H1 => ∃ i j : Int, vs = [.int i, .int j] ∧ (-(2 ^ 62) ≤ i ∧ i < 2 ^ 62 ∧ -(2 ^ 62) ≤ j ∧ j < 2 ^ 62) ∧ R (Itr i (j - i).toNat) H1
theorem pi_range1 {a : Expr} {ta : TA} {p pos : Pos} (hg : Gl X "range") (hm : X.mg "range" = none) (ha : PA X [a] ta) (hs : starEach [a] X.env = [(false, eval a X.env)] := by rfl) : PI X tg (.Call (.Name "range" p) [a] [] pos) (iRng1 ta) := by
  intro pins s σ H R I h
  refine Call_ (ld_blt I hg hm boot_range (PyProof.Rows.callWith_type1 (thn (ha pos pins s σ H _ I h) fun us s1 ⟨vs, H1, I1, r1, q1⟩ => ?_) hs rfl))
  obtain ⟨j, e, q1, q2, q⟩ := q1
  subst e
  cases r1 with
  | cons r rr =>
    cases rr
    obtain ⟨t, rfl⟩ := r
    exact call_range_1 (range_it I1 (by omega) (by omega) q1 q2 (by simpa using q))
theorem pi_range2 {a b : Expr} {ta : TA} {p pos : Pos} (hg : Gl X "range") (hm : X.mg "range" = none) (ha : PA X [a, b] ta) (hs : starEach [a, b] X.env = [(false, eval a X.env), (false, eval b X.env)] := by rfl) (hs2 : starEach [b] X.env = [(false, eval b X.env)] := by rfl) :
    PI X tg (.Call (.Name "range" p) [a, b] [] pos) (iRng2 ta) := by
  intro pins s σ H R I h
  refine Call_ (ld_blt I hg hm boot_range (PyProof.Rows.callWith_type1 (thn (ha pos pins s σ H _ I h) fun us s1 ⟨vs, H1, I1, r1, q1⟩ => ?_) (by rw [hs, hs2]) (by rw [hs2]; rfl)))
  obtain ⟨i, j, e, ⟨q1, q2, q3, q4⟩, q⟩ := q1
  subst e
  cases r1 with
  | cons r rr =>
    cases rr with
    | cons r' rr =>
      cases rr
      obtain ⟨t, rfl⟩ := r
      obtain ⟨t', rfl⟩ := r'
      exact call_range_2 (range_it I1 q1 q2 q3 q4 q)

/-! ### for -/
/-- W: the invariant by the turn and a measure; N: what the body is to reach -/
def tFor (wi : TI) (g : TG) (tb : TS) : TS := fun D σ H => wi σ H fun J H1 => ∃ W : Nat → Nat → St → Hp → Prop, (∃ m, W 0 m σ H1) ∧ ∀ i m σ H, W i m σ H →
  (J.stop i H ∧ D.nx σ H) ∨ (J.go i H ∧ ∃ N : St → Hp → Prop, (∀ σ' H', N σ' H' → ∃ m', m' < m ∧ W (i + 1) m' σ' H') ∧ ∀ x H', J.yld i H x H' → g x σ H' fun σ2 H2 => tb { D with nx := N, ct := N, bk := D.nx } σ2 H2)
/-- the records at fp as they stand -/
def pinsAt (fp : List Addr) (h : Heap) : List (Addr × Obj) := fp.filterMap fun b => (h.get? b).map fun o => (b, o)
theorem mem_pinsAt {fp : List Addr} {h : Heap} {b : Addr} {o : Obj} (hb : b ∈ fp) (e : h.get? b = some o) : (b, o) ∈ pinsAt fp h := List.mem_filterMap.mpr ⟨b, hb, by rw [e]; rfl⟩
theorem of_pinsAt {fp : List Addr} {h : Heap} {p : Addr × Obj} (hp : p ∈ pinsAt fp h) : p.1 ∈ fp ∧ h.get? p.1 = some p.2 := by
  obtain ⟨b, hb, e⟩ := List.mem_filterMap.mp hp
  cases q : h.get? b with
  | none => rw [q] at e; cases e
  | some o =>
    rw [q] at e
    have e' : (b, o) = p := Option.some.inj e
    subst e'
    exact ⟨hb, q⟩
theorem Inv.pinned {pins : List (Addr × Obj)} {σ : St} {H : Hp} {s : Shared} {fp : List Addr} (I : Inv X pins σ H s) (hf : ∀ b ∈ fp, FpOk X pins H b) (ho : ∀ b ∈ fp, ∃ o, s.heap.get? b = some o ∧ ∀ v, o.data ≠ .cell v) : Inv X (pins ++ pinsAt fp s.heap) σ H s :=
  I.pins_of fun p hp => (List.mem_append.mp hp).elim (fun z => I.pin p (List.mem_append_right _ z)) fun z => by
    obtain ⟨hb, e⟩ := of_pinsAt z
    obtain ⟨f0, f1, f2, _⟩ := hf p.1 hb
    obtain ⟨o, e', d⟩ := ho p.1 hb
    rw [e] at e'; cases e'
    exact ⟨e, f0, f1, f2, d⟩
theorem Inv.unpinned {pins pl : List (Addr × Obj)} {σ : St} {H : Hp} {s : Shared} (I : Inv X (pins ++ pl) σ H s) : Inv X pins σ H s := I.pins_of fun p hp => I.pin p (List.mem_append_right _ (List.mem_append_left _ hp))
theorem ps_for {iter : Expr} {body : List Stmt} {wi : TI} {g : TG} {tb : TS} {pos : Pos} (hp : PassesOwn (model X.prog X.w) X.A X.env X.xe) (hc : X.calm = true) (hi : PI X tg iter wi) (hg : PG X tg g) (hb : PSs X body tb)
    (hs : ∀ x, foldedSetIterable iter X.env x = pure x := by intro _; rfl) : PS X (.For tg iter body [] pos) (tFor wi g tb) := by
  intro pins s σ H D I h
  refine wpAny_For (thn (hi pins s σ H _ I h) fun v s1 h1 => thn h1 fun itv s2 h2 => ?_) hs
  obtain ⟨it, fp, tn, J, H2, e, I2, T, st2, f2, W, ⟨m0, w0⟩, turn⟩ := h2
  subst e
  -- what stays true of the iterator's objects through the loop
  have stat : ∀ {H' : Hp}, (∀ b ∈ fp, H' b = none) → ∀ b ∈ fp, FpOk X pins H' b := fun hn b hb => ⟨hn b hb, (f2 b hb).2⟩
  refine codeAny_forLoop_any (fun n s' => ∃ i σ' H', Inv X pins σ' H' s' ∧ tn i s'.heap ∧ (∀ b ∈ fp, H' b = none) ∧ W i n σ' H') ?_ m0 ⟨0, σ, H2, I2, st2, fun b hb => (f2 b hb).1, w0⟩
  rintro n s3 ⟨i, σ3, H3, I3, st3, fr3, w3⟩
  rcases turn i n σ3 H3 w3 with ⟨stop, qn⟩ | ⟨go, N, hN, step⟩
  · refine wpAny_passesOwn hp (thn (T.done X rfl rfl rfl hc i pins s3 σ3 H3 X.xe I3 (stat fr3) st3 stop) fun r s4 ⟨hr, I4⟩ => ?_)
    subst hr
    exact wpAny_execs_nil ⟨σ3, H3, I4, qn⟩
  · refine wpAny_passesOwn hp (thn (T.item X rfl rfl rfl hc i pins s3 σ3 H3 X.xe I3 (stat fr3) st3 go) fun r s4 ⟨u, hr, h4⟩ => ?_)
    subst hr
    refine wpAny_passesOwn hp (thn h4 fun _ s5 ⟨x, H5, I5, r5, y5, st5, fr5⟩ => ?_)
    have I5' := I5.pinned (stat fr5) (T.obj _ _ st5)
    refine wpAny_passesOwn hp (thn (hg _ s5 σ3 H5 x u _ I5' r5 (step x H5 y5)) fun _ s6 ⟨σ6, H6, I6, q6⟩ => ?_)
    refine wpAny_passesOwn hp (thn (hb _ s6 σ6 H6 _ I6 q6) fun f s7 q7 => ?_)
    have again : ∀ {σ7 : St} {H7 : Hp}, Inv X (pins ++ pinsAt fp s5.heap) σ7 H7 s7 → N σ7 H7 → ∃ m, m < n ∧ ∃ i σ' H', Inv X pins σ' H' s7 ∧ tn i s7.heap ∧ (∀ b ∈ fp, H' b = none) ∧ W i m σ' H' := fun {σ7 H7} I7 n7 => by
      obtain ⟨m', hm, w7⟩ := hN σ7 H7 n7
      refine ⟨m', hm, i + 1, σ7, H7, I7.unpinned, T.keep _ _ _ st5 fun b hb o e => (I7.pin (b, o) (List.mem_append_right _ (List.mem_append_right _ (mem_pinsAt hb e)))).1, fun b hb => ?_, w7⟩
      obtain ⟨o, e, d⟩ := T.obj _ _ st5 b hb
      exact (I7.pin (b, o) (List.mem_append_right _ (List.mem_append_right _ (mem_pinsAt hb e)))).2.1
    cases f with
    | next => obtain ⟨σ7, H7, I7, n7⟩ := q7; exact again I7 n7
    | cont => obtain ⟨σ7, H7, I7, n7⟩ := q7; exact again I7 n7
    | brk => obtain ⟨σ7, H7, I7, q7⟩ := q7; exact ⟨σ7, H7, I7.unpinned, q7⟩
    | ret v => obtain ⟨x7, σ7, H7, I7, r7, q7⟩ := q7; exact ⟨x7, σ7, H7, I7.unpinned, r7, q7⟩
end

/-! ### the forms one uses -/
/-- over a list that the body leaves as it is -/
theorem for_list {K : PySem.W.Frag} {a : Addr} {xs : List V} {g : TG} {tb : TS} {D : Ends} {σ : St} {H : Hp} (Pv : Nat → St → Hp → Prop) (h0 : Pv 0 σ H) (hl : ∀ i σ H, i ≤ xs.length → Pv i σ H → SqL K H a xs)
    (hs : ∀ i x σ H, xs[i]? = some x → Pv i σ H → g x σ H fun σ2 H2 => tb { D with nx := Pv (i + 1), ct := Pv (i + 1), bk := D.nx } σ2 H2) (hd : ∀ σ H, Pv xs.length σ H → D.nx σ H) :
    ∃ W : Nat → Nat → St → Hp → Prop, (∃ m, W 0 m σ H) ∧ ∀ i m σ H, W i m σ H →
      ((Itl K a).stop i H ∧ D.nx σ H) ∨ ((Itl K a).go i H ∧ ∃ N : St → Hp → Prop, (∀ σ' H', N σ' H' → ∃ m', m' < m ∧ W (i + 1) m' σ' H') ∧ ∀ x H', (Itl K a).yld i H x H' → g x σ H' fun σ2 H2 => tb { D with nx := N, ct := N, bk := D.nx } σ2 H2) := by
  refine ⟨fun i m σ H => m = xs.length - i ∧ i ≤ xs.length ∧ Pv i σ H, ⟨xs.length, by simp, Nat.zero_le _, h0⟩, ?_⟩
  rintro i m σ H ⟨rfl, hi, p⟩
  have q := hl i σ H hi p
  by_cases hlt : i < xs.length
  · refine .inr ⟨⟨xs, xs[i], q, by simp [hlt]⟩, Pv (i + 1), fun σ' H' p' => ⟨xs.length - (i + 1), by omega, rfl, hlt, p'⟩, fun x H' y => ?_⟩
    obtain ⟨e, y⟩ := y
    subst e
    exact hs i x σ _ (y xs q) p
  · have e : i = xs.length := by omega
    subst e
    exact .inl ⟨⟨xs, q, Nat.le_refl _⟩, hd σ H p⟩
theorem for_tup {K : PySem.W.Frag} {a : Addr} {xs : List V} {g : TG} {tb : TS} {D : Ends} {σ : St} {H : Hp} (Pv : Nat → St → Hp → Prop) (h0 : Pv 0 σ H) (hl : ∀ i σ H, i ≤ xs.length → Pv i σ H → SqT K H a xs)
    (hs : ∀ i x σ H, xs[i]? = some x → Pv i σ H → g x σ H fun σ2 H2 => tb { D with nx := Pv (i + 1), ct := Pv (i + 1), bk := D.nx } σ2 H2) (hd : ∀ σ H, Pv xs.length σ H → D.nx σ H) :
    ∃ W : Nat → Nat → St → Hp → Prop, (∃ m, W 0 m σ H) ∧ ∀ i m σ H, W i m σ H →
      ((Itt K a).stop i H ∧ D.nx σ H) ∨ ((Itt K a).go i H ∧ ∃ N : St → Hp → Prop, (∀ σ' H', N σ' H' → ∃ m', m' < m ∧ W (i + 1) m' σ' H') ∧ ∀ x H', (Itt K a).yld i H x H' → g x σ H' fun σ2 H2 => tb { D with nx := N, ct := N, bk := D.nx } σ2 H2) := by
  refine ⟨fun i m σ H => m = xs.length - i ∧ i ≤ xs.length ∧ Pv i σ H, ⟨xs.length, by simp, Nat.zero_le _, h0⟩, ?_⟩
  rintro i m σ H ⟨rfl, hi, p⟩
  have q := hl i σ H hi p
  by_cases hlt : i < xs.length
  · refine .inr ⟨⟨xs, xs[i], q, by simp [hlt]⟩, Pv (i + 1), fun σ' H' p' => ⟨xs.length - (i + 1), by omega, rfl, hlt, p'⟩, fun x H' y => ?_⟩
    obtain ⟨e, y⟩ := y
    subst e
    exact hs i x σ _ (y xs q) p
  · have e : i = xs.length := by omega
    subst e
    exact .inl ⟨⟨xs, q, Nat.le_refl _⟩, hd σ H p⟩
theorem for_range {lo : Int} {n : Nat} {g : TG} {tb : TS} {D : Ends} {σ : St} {H : Hp} (Pv : Nat → St → Hp → Prop) (h0 : Pv 0 σ H)
    (hs : ∀ i σ H, i < n → Pv i σ H → g (.int (lo + i)) σ H fun σ2 H2 => tb { D with nx := Pv (i + 1), ct := Pv (i + 1), bk := D.nx } σ2 H2) (hd : ∀ σ H, Pv n σ H → D.nx σ H) :
    ∃ W : Nat → Nat → St → Hp → Prop, (∃ m, W 0 m σ H) ∧ ∀ i m σ H, W i m σ H →
      ((Itr lo n).stop i H ∧ D.nx σ H) ∨ ((Itr lo n).go i H ∧ ∃ N : St → Hp → Prop, (∀ σ' H', N σ' H' → ∃ m', m' < m ∧ W (i + 1) m' σ' H') ∧ ∀ x H', (Itr lo n).yld i H x H' → g x σ H' fun σ2 H2 => tb { D with nx := N, ct := N, bk := D.nx } σ2 H2) := by
  refine ⟨fun i m σ H => m = n - i ∧ i ≤ n ∧ Pv i σ H, ⟨n, by simp, Nat.zero_le _, h0⟩, ?_⟩
  rintro i m σ H ⟨rfl, hi, p⟩
  by_cases hlt : i < n
  · refine .inr ⟨hlt, Pv (i + 1), fun σ' H' p' => ⟨n - (i + 1), by omega, rfl, hlt, p'⟩, fun x H' y => ?_⟩
    obtain ⟨e, y⟩ := y
    subst e y
    exact hs i σ _ hlt p
  · have e : i = n := by omega
    subst e
    exact .inl ⟨Nat.le_refl _, hd σ H p⟩
/-- while, by a word and a measure of the state -/
theorem while_by {c : TT} {tb : TS} {D : Ends} {σ : St} {H : Hp} (Pv : St → Hp → Prop) (μ : St → Hp → Nat) (h0 : Pv σ H)
    (hs : ∀ σ H, Pv σ H → c σ H fun b H1 => if b = true then tb { D with nx := fun σ' H' => Pv σ' H' ∧ μ σ' H' < μ σ H, ct := fun σ' H' => Pv σ' H' ∧ μ σ' H' < μ σ H, bk := D.nx } σ H1 else D.nx σ H1)
    (mono : ∀ σ H Q Q', (∀ b H1, Q b H1 → Q' b H1) → c σ H Q → c σ H Q') : tWhile c tb D σ H := by
  refine ⟨fun m σ H => m = μ σ H ∧ Pv σ H, ⟨_, rfl, h0⟩, ?_⟩
  rintro m σ H ⟨rfl, p⟩
  refine mono σ H _ _ (fun b H1 q => ?_) (hs σ H p)
  cases b with
  | true => exact ⟨_, fun σ' H' ⟨p', l⟩ => ⟨_, l, rfl, p'⟩, q⟩
  | false => exact q
end L2

namespace L2
open PySem PySem.Spec PyProof.Rows

abbrev R2 := V → V → Hp → VK → Prop
/-- a two-place operation on values: f is binaryOp op, inplaceOp op or compareOp op -/
def OpR (X : Cx) (f : Value → Value → Sem Value) (r : R2) : Prop :=
  ∀ (pins : List (Addr × Obj)) (s : Shared) (σ : St) (H : Hp) (x y : V) (v u : Value) (Q : VK), Inv X pins σ H s → RelV x v → RelV y u → r x y H Q →
    wpAny (model X.prog X.w) X.A (f v u) (EP X pins σ Q) X.xe s
/-- a one-place operation -/
def UnR (X : Cx) (f : Value → Sem Value) (r : V → Hp → VK → Prop) : Prop :=
  ∀ (pins : List (Addr × Obj)) (s : Shared) (σ : St) (H : Hp) (x : V) (v : Value) (Q : VK), Inv X pins σ H s → RelV x v → r x H Q →
    wpAny (model X.prog X.w) X.A (f v) (EP X pins σ Q) X.xe s
/-- a call of a value that is known (a builtin, a type) with values -/
def CallR (X : Cx) (f : Value) (r : List V → Hp → VK → Prop) : Prop :=
  ∀ (pins : List (Addr × Obj)) (s : Shared) (σ : St) (H : Hp) (xs : List V) (us : List Value) (Q : VK), Inv X pins σ H s → Vals xs us → r xs H Q →
    wpAny (model X.prog X.w) X.A (call f us) (EP X pins σ Q) X.xe s
/-- a value's truth -/
def TruR (X : Cx) (r : V → Hp → (Bool → Hp → Prop) → Prop) : Prop :=
  ∀ (pins : List (Addr × Obj)) (s : Shared) (σ : St) (H : Hp) (x : V) (v : Value) (Q : Bool → Hp → Prop), Inv X pins σ H s → RelV x v → r x H Q →
    wpAny (model X.prog X.w) X.A (truthy v) (TP X pins σ Q) X.xe s

def tOp (r : R2) (ta tb : TE) : TE := fun σ H Q => ta σ H fun x H1 => tb σ H1 fun y H2 => r x y H2 Q
def tUn (r : V → Hp → VK → Prop) (ta : TE) : TE := fun σ H Q => ta σ H fun x H1 => r x H1 Q
/-- ints in, under C, and a value out -/
def rI (C : Int → Int → Prop) (g : Int → Int → V) : R2 := fun x y H Q => ∃ i j, x = .int i ∧ y = .int j ∧ C i j ∧ Q (g i j) H
def rI0 (g : Int → Int → V) : R2 := fun x y H Q => ∃ i j, x = .int i ∧ y = .int j ∧ Q (g i j) H
def rU (g : Int → V) : V → Hp → VK → Prop := fun x H Q => ∃ i, x = .int i ∧ Q (g i) H

section
variable {X : Cx} {a b c : Expr} {ta tb tc : TE} {pos : Pos}

theorem binT (ha : PE X a ta) (hb : PE X b tb) {pins : List (Addr × Obj)} {s : Shared} {σ : St} {H : Hp} {R : V → V → Hp → Prop} (I : Inv X pins σ H s)
    (h : ta σ H fun x H1 => tb σ H1 fun y H2 => R x y H2) {Q : Value → Shared → Prop} {f : Value → Value → Sem Value}
    (hf : ∀ v u s2 x y H2, Inv X pins σ H2 s2 → RelV x v → RelV y u → R x y H2 → wpAny (model X.prog X.w) X.A (f v u) Q X.xe s2) :
    wpAny (model X.prog X.w) X.A (eval a X.env) (fun v s₁ => wpAny (model X.prog X.w) X.A (eval b X.env) (fun u s₂ => wpAny (model X.prog X.w) X.A (f v u) Q X.xe s₂) X.xe s₁) X.xe s := by
  refine thn (ha pins s σ H _ I h) fun v s1 ⟨x, H1, I1, r1, q1⟩ => ?_
  refine thn (hb pins s1 σ H1 _ I1 q1) fun u s2 ⟨y, H2, I2, r2, q2⟩ => ?_
  exact hf v u s2 x y H2 I2 r1 r2 q2

theorem pe_op {op : Operator} {r : R2} (ho : OpR X (binaryOp op) r) (ha : PE X a ta) (hb : PE X b tb) : PE X (.BinOp a op b pos) (tOp r ta tb) := by
  intro pins s σ H Q I h
  exact wpAny_BinOp (binT ha hb I h fun v u s2 x y H2 I2 rx ry q => ho pins s2 σ H2 x y v u Q I2 rx ry q)
theorem pe_un {op : UnaryOp} {r : V → Hp → VK → Prop} (ho : UnR X (unaryOp op) r) (ha : PE X a ta) : PE X (.UnaryOp op a pos) (tUn r ta) := by
  intro pins s σ H Q I h
  exact UnaryOp_ (thn (ha pins s σ H _ I h) fun v s1 ⟨x, H1, I1, r1, q1⟩ => ho pins s1 σ H1 x v Q I1 r1 q1)
/-- a op= e at a name: the name's slot i -/
theorem augR {op : Operator} {r : R2} (ho : OpR X (inplaceOp op) r) {pins : List (Addr × Obj)} {s : Shared} {σ : St} {H : Hp} {x y : V} {v u : Value} {Q : VK} (I : Inv X pins σ H s)
    (rx : RelV x v) (ry : RelV y u) (q : r x y H Q) : wpAny (model X.prog X.w) X.A (inplaceOp op v u) (EP X pins σ Q) X.xe s := ho pins s σ H x y v u Q I rx ry q

/-! ### ints -/
theorem opI {f : Value → Value → Sem Value} {C : Int → Int → Prop} {g : Int → Int → Int}
    (rule : ∀ (i j : Int) (t u : Tok) (s : Shared) (Q : Value → Shared → Prop) (E : Value → Shared → Prop), C i j → Q (.int (g i j) s.toks) { s with toks := s.toks + 1 } → wpAny (model X.prog X.w) X.A (f (.int i t) (.int j u)) Q E s) :
    OpR X f (rI C fun i j => .int (g i j)) := by
  intro pins s σ H x y v u Q I rx ry h
  obtain ⟨i, j, rfl, rfl, hc, q⟩ := h
  obtain ⟨t, rfl⟩ := rx
  obtain ⟨t', rfl⟩ := ry
  exact rule i j t t' s _ _ hc ⟨.int (g i j), H, I.tok _, ⟨_, rfl⟩, q⟩
theorem opI0 {f : Value → Value → Sem Value} {g : Int → Int → Int}
    (rule : ∀ (i j : Int) (t u : Tok) (s : Shared) (Q : Value → Shared → Prop) (E : Value → Shared → Prop), Q (.int (g i j) s.toks) { s with toks := s.toks + 1 } → wpAny (model X.prog X.w) X.A (f (.int i t) (.int j u)) Q E s) :
    OpR X f (rI0 fun i j => .int (g i j)) := by
  intro pins s σ H x y v u Q I rx ry h
  obtain ⟨i, j, rfl, rfl, q⟩ := h
  obtain ⟨t, rfl⟩ := rx
  obtain ⟨t', rfl⟩ := ry
  exact rule i j t t' s _ _ ⟨.int (g i j), H, I.tok _, ⟨_, rfl⟩, q⟩
theorem opB0 {f : Value → Value → Sem Value} {g : Int → Int → Bool}
    (rule : ∀ (i j : Int) (t u : Tok) (s : Shared) (Q : Value → Shared → Prop) (E : Value → Shared → Prop), Q (.bool (g i j)) s → wpAny (model X.prog X.w) X.A (f (.int i t) (.int j u)) Q E s) :
    OpR X f (rI0 fun i j => .bl (g i j)) := by
  intro pins s σ H x y v u Q I rx ry h
  obtain ⟨i, j, rfl, rfl, q⟩ := h
  obtain ⟨t, rfl⟩ := rx
  obtain ⟨t', rfl⟩ := ry
  exact rule i j t t' s _ _ ⟨.bl (g i j), H, I, rfl, q⟩

def CDiv (i j : Int) : Prop := 0 < j ∧ j < 1073741824
def CDivN (i j : Int) : Prop := j ≠ 0 ∧ j.natAbs < 1073741824
def CPow (i j : Int) : Prop := 0 ≤ j ∧ j ≤ 1000000 ∧ i.natAbs < 2 ^ 64
def CMul (i j : Int) : Prop := (-(2 ^ 64) < i ∧ i < 2 ^ 64) ∨ (-(2 ^ 64) < j ∧ j < 2 ^ 64)
theorem CMul.ok {i j : Int} (h : CMul i j) : IntMulOk i j := by
  rcases h with ⟨h1, h2⟩ | ⟨h1, h2⟩
  · exact .of_left (intBits_le_64 h1 h2)
  · exact .of_right (intBits_le_64 h1 h2)
theorem two_pow_nn (k : Nat) : (0 : Int) ≤ 2 ^ k := by
  rw [two_pow_cast]
  exact Int.natCast_nonneg _

theorem op_add : OpR X (binaryOp .Add) (rI0 fun i j => .int (i + j)) := opI0 fun _ _ _ _ _ _ _ q => add_int q
theorem op_sub : OpR X (binaryOp .Sub) (rI0 fun i j => .int (i - j)) := opI0 fun _ _ _ _ _ _ _ q => sub_int q
theorem op_mul : OpR X (binaryOp .Mult) (rI CMul fun i j => .int (i * j)) := opI fun _ _ _ _ _ _ _ hc q => mul_int q hc.ok
/-- // by a positive divisor -/
theorem op_fdiv : OpR X (binaryOp .FloorDiv) (rI CDiv fun i j => .int (i / j)) := opI fun i j _ _ _ _ _ hc q => by
  have h1 : (0 : Int) < j := hc.1
  have h2 : j < 1073741824 := hc.2
  exact floordiv_int (by omega) (by rw [Int.fdiv_eq_ediv_of_nonneg i (by omega)]; exact q) (.inl (PyProof.noPylong_small (by omega)))
theorem op_fdivN : OpR X (binaryOp .FloorDiv) (rI CDivN fun i j => .int (i.fdiv j)) := opI fun _ _ _ _ _ _ _ hc q => floordiv_int hc.1 q (.inl (PyProof.noPylong_small hc.2))
/-- % by a positive divisor of any size -/
theorem op_mod : OpR X (binaryOp .Mod) (rI (fun _ j => 0 < j) fun i j => .int (i % j)) := opI fun i j _ _ _ _ _ hc q => by
  have h1 : (0 : Int) < j := hc
  exact mod_int' (by omega) (by rw [Int.fmod_eq_emod_of_nonneg i (by omega)]; exact q)
theorem op_modN : OpR X (binaryOp .Mod) (rI (fun _ j => j ≠ 0) fun i j => .int (i.fmod j)) := opI fun _ _ _ _ _ _ _ hc q => mod_int' hc q
theorem op_pow : OpR X (binaryOp .Pow) (rI CPow fun i j => .int (i ^ j.toNat)) := opI fun _ _ _ _ _ _ _ hc q => pow_int_small hc.1 hc.2.1 hc.2.2 q
theorem op_shl : OpR X (binaryOp .LShift) (rI CPow fun i j => .int (i * 2 ^ j.toNat)) := opI fun _ _ _ _ _ _ _ hc q => lshift_int_small hc.1 hc.2.1 hc.2.2 q
theorem op_shr : OpR X (binaryOp .RShift) (rI (fun _ j => 0 ≤ j) fun i j => .int (i / 2 ^ j.toNat)) := opI fun i j _ _ _ _ _ hc q =>
  rshift_int hc (by rw [Int.fdiv_eq_ediv_of_nonneg i (two_pow_nn _)]; exact q)
theorem op_and : OpR X (binaryOp .BitAnd) (rI0 fun i j => .int (Builtin.bitAnd i j)) := opI0 fun _ _ _ _ _ _ _ q => and_int q
theorem op_or : OpR X (binaryOp .BitOr) (rI0 fun i j => .int (Builtin.bitOr i j)) := opI0 fun _ _ _ _ _ _ _ q => or_int q
theorem op_xor : OpR X (binaryOp .BitXor) (rI0 fun i j => .int (Builtin.bitXor i j)) := opI0 fun _ _ _ _ _ _ _ q => xor_int q

theorem iop_add : OpR X (inplaceOp .Add) (rI0 fun i j => .int (i + j)) := opI0 fun _ _ _ _ _ _ _ q => iadd_int q
theorem iop_sub : OpR X (inplaceOp .Sub) (rI0 fun i j => .int (i - j)) := opI0 fun _ _ _ _ _ _ _ q => isub_int q
theorem iop_mul : OpR X (inplaceOp .Mult) (rI CMul fun i j => .int (i * j)) := opI fun _ _ _ _ _ _ _ hc q => imul_int q hc.ok
theorem iop_fdiv : OpR X (inplaceOp .FloorDiv) (rI CDiv fun i j => .int (i / j)) := opI fun i j _ _ _ _ _ hc q => by
  have h1 : (0 : Int) < j := hc.1
  have h2 : j < 1073741824 := hc.2
  exact ifloordiv_int (by omega) (by rw [Int.fdiv_eq_ediv_of_nonneg i (by omega)]; exact q) (.inl (PyProof.noPylong_small (by omega)))
theorem iop_mod : OpR X (inplaceOp .Mod) (rI (fun _ j => 0 < j) fun i j => .int (i % j)) := opI fun i j _ _ _ _ _ hc q => by
  have h1 : (0 : Int) < j := hc
  exact imod_int (by omega) (by rw [Int.fmod_eq_emod_of_nonneg i (by omega)]; exact q)
theorem iop_shl : OpR X (inplaceOp .LShift) (rI CPow fun i j => .int (i * 2 ^ j.toNat)) := opI fun _ _ _ _ _ _ _ hc q => ilshift_int_small hc.1 hc.2.1 hc.2.2 q
theorem iop_shr : OpR X (inplaceOp .RShift) (rI (fun _ j => 0 ≤ j) fun i j => .int (i / 2 ^ j.toNat)) := opI fun i j _ _ _ _ _ hc q =>
  irshift_int hc (by rw [Int.fdiv_eq_ediv_of_nonneg i (two_pow_nn _)]; exact q)
theorem iop_and : OpR X (inplaceOp .BitAnd) (rI0 fun i j => .int (Builtin.bitAnd i j)) := opI0 fun _ _ _ _ _ _ _ q => iand_int q
theorem iop_or : OpR X (inplaceOp .BitOr) (rI0 fun i j => .int (Builtin.bitOr i j)) := opI0 fun _ _ _ _ _ _ _ q => ior_int q
theorem iop_xor : OpR X (inplaceOp .BitXor) (rI0 fun i j => .int (Builtin.bitXor i j)) := opI0 fun _ _ _ _ _ _ _ q => ixor_int q

theorem unI {f : Value → Sem Value} {g : Int → Int}
    (rule : ∀ (i : Int) (t : Tok) (s : Shared) (Q : Value → Shared → Prop) (E : Value → Shared → Prop), Q (.int (g i) s.toks) { s with toks := s.toks + 1 } → wpAny (model X.prog X.w) X.A (f (.int i t)) Q E s) :
    UnR X f (rU fun i => .int (g i)) := by
  intro pins s σ H x v Q I rx h
  obtain ⟨i, rfl, q⟩ := h
  obtain ⟨t, rfl⟩ := rx
  exact rule i t s _ _ ⟨.int (g i), H, I.tok _, ⟨_, rfl⟩, q⟩
theorem un_neg : UnR X (unaryOp .USub) (rU fun i => .int (-i)) := unI fun _ _ _ _ _ q => neg_int q
theorem un_inv : UnR X (unaryOp .Invert) (rU fun i => .int (Builtin.bitNot i)) := unI fun _ _ _ _ _ q => invert_int q

/-! ### bools among ints: n += (a < b) -/
theorem op_add_ib : OpR X (binaryOp .Add) (fun x y H Q => ∃ i k, x = .int i ∧ y = .bl k ∧ Q (.int (i + b2i k)) H) := by
  intro pins s σ H x y v u Q I rx ry h
  obtain ⟨i, k, rfl, rfl, q⟩ := h
  obtain ⟨t, rfl⟩ := rx
  cases ry
  exact add_int_bool ⟨.int (i + b2i k), H, I.tok _, ⟨_, rfl⟩, q⟩
end

/-! ### comparisons -/
/-- the scalars that == tells apart as data does -/
def scal : V → V → Bool
  | .non, .non => true | .non, .int _ => true | .int _, .non => true | .non, .bl _ => true | .bl _, .non => true | .non, .str _ => true | .str _, .non => true
  | .int _, .int _ => true | .bl _, .bl _ => true | .str _, .str _ => true | .byt _, .byt _ => true
  | .int _, .str _ => true | .str _, .int _ => true | .bl _, .str _ => true | .str _, .bl _ => true
  | _, _ => false
def rEq : R2 := fun x y H Q => scal x y = true ∧ Q (.bl (decide (x = y))) H
def rNe : R2 := fun x y H Q => scal x y = true ∧ Q (.bl (!decide (x = y))) H

theorem dec_int {i j : Int} : decide (V.int i = V.int j) = (i == j) := by
  rw [Bool.eq_iff_iff]
  simp
theorem dec_bl {i j : Bool} : decide (V.bl i = V.bl j) = (i == j) := by
  rw [Bool.eq_iff_iff]
  simp
theorem dec_str {i j : Str} : decide (V.str i = V.str j) = (i == j) := by
  rw [Bool.eq_iff_iff]
  simp
theorem dec_byt {i j : Array UInt8} : decide (V.byt i = V.byt j) = (i.toList == j.toList) := by
  rw [Bool.eq_iff_iff]
  cases i
  cases j
  simp

section
variable {X : Cx} {a b c : Expr} {ta tb tc : TE} {pos : Pos}
theorem fin_bl {pins : List (Addr × Obj)} {σ : St} {H : Hp} {s : Shared} {Q : VK} {k k' : Bool} (I : Inv X pins σ H s) (q : Q (.bl k) H) (e : k = k') : EP X pins σ Q (.bool k') s := by
  subst e
  exact ⟨.bl k, H, I, rfl, q⟩
theorem op_eq : OpR X (compareOp .Eq) rEq := by
  intro pins s σ H x y v u Q I rx ry h
  obtain ⟨hs, q⟩ := h
  cases x with
  | non =>
    cases rx
    cases y with
    | non => cases ry; exact PySem.EqNone.eq_none_none (fin_bl I q (by simp))
    | bl j => cases ry; exact PySem.EqNone.eq_none_bool (fin_bl I q (by simp))
    | int j => obtain ⟨t', rfl⟩ := ry; exact PySem.EqNone.eq_none_int (fin_bl I q (by simp))
    | str j => obtain ⟨t', rfl⟩ := ry; exact PySem.EqNone.eq_none_str (fin_bl I q (by simp))
    | _ => exact absurd (show false = true from hs) Bool.false_ne_true
  | bl i =>
    cases rx
    cases y with
    | non => cases ry; exact PySem.EqNone.eq_bool_none (fin_bl I q (by simp))
    | bl j => cases ry; exact eq_bool (fin_bl I q dec_bl)
    | str j => obtain ⟨t', rfl⟩ := ry; exact PySem.EqMixed.eq_bool_str (fin_bl I q (by simp))
    | _ => exact absurd (show false = true from hs) Bool.false_ne_true
  | int i =>
    obtain ⟨t, rfl⟩ := rx
    cases y with
    | non => cases ry; exact PySem.EqNone.eq_int_none (fin_bl I q (by simp))
    | int j => obtain ⟨t', rfl⟩ := ry; exact eq_int (fin_bl I q dec_int)
    | str j => obtain ⟨t', rfl⟩ := ry; exact PySem.EqMixed.eq_int_str (fin_bl I q (by simp))
    | _ => exact absurd (show false = true from hs) Bool.false_ne_true
  | str i =>
    obtain ⟨t, rfl⟩ := rx
    cases y with
    | non => cases ry; exact PySem.EqNone.eq_str_none (fin_bl I q (by simp))
    | bl j => cases ry; exact PySem.EqMixed.eq_str_bool (fin_bl I q (by simp))
    | int j => obtain ⟨t', rfl⟩ := ry; exact PySem.EqMixed.eq_str_int (fin_bl I q (by simp))
    | str j => obtain ⟨t', rfl⟩ := ry; exact eq_str (fin_bl I q dec_str)
    | _ => exact absurd (show false = true from hs) Bool.false_ne_true
  | byt i =>
    obtain ⟨t, rfl⟩ := rx
    cases y with
    | byt j => obtain ⟨t', rfl⟩ := ry; exact PySem.W.eq_bytes (fin_bl I q dec_byt)
    | _ => exact absurd (show false = true from hs) Bool.false_ne_true
  | _ => cases y <;> exact absurd (show false = true from hs) Bool.false_ne_true
theorem op_ne : OpR X (compareOp .NotEq) rNe := by
  intro pins s σ H x y v u Q I rx ry h
  obtain ⟨hs, q⟩ := h
  cases x with
  | non =>
    cases rx
    cases y with
    | non => cases ry; exact PySem.EqNone.ne_none_none (fin_bl I q (by simp))
    | bl j => cases ry; exact PySem.EqNone.ne_none_bool (fin_bl I q (by simp))
    | int j => obtain ⟨t', rfl⟩ := ry; exact PySem.EqNone.ne_none_int (fin_bl I q (by simp))
    | str j => obtain ⟨t', rfl⟩ := ry; exact PySem.EqNone.ne_none_str (fin_bl I q (by simp))
    | _ => exact absurd (show false = true from hs) Bool.false_ne_true
  | bl i =>
    cases rx
    cases y with
    | non => cases ry; exact PySem.EqNone.ne_bool_none (fin_bl I q (by simp))
    | bl j => cases ry; exact ne_bool (fin_bl I q (congrArg not dec_bl))
    | str j => obtain ⟨t', rfl⟩ := ry; exact PySem.EqMixed.ne_bool_str (fin_bl I q (by simp))
    | _ => exact absurd (show false = true from hs) Bool.false_ne_true
  | int i =>
    obtain ⟨t, rfl⟩ := rx
    cases y with
    | non => cases ry; exact PySem.EqNone.ne_int_none (fin_bl I q (by simp))
    | int j => obtain ⟨t', rfl⟩ := ry; exact ne_int (fin_bl I q (congrArg not dec_int))
    | str j => obtain ⟨t', rfl⟩ := ry; exact PySem.EqMixed.ne_int_str (fin_bl I q (by simp))
    | _ => exact absurd (show false = true from hs) Bool.false_ne_true
  | str i =>
    obtain ⟨t, rfl⟩ := rx
    cases y with
    | non => cases ry; exact PySem.EqNone.ne_str_none (fin_bl I q (by simp))
    | bl j => cases ry; exact PySem.EqMixed.ne_str_bool (fin_bl I q (by simp))
    | int j => obtain ⟨t', rfl⟩ := ry; exact PySem.EqMixed.ne_str_int (fin_bl I q (by simp))
    | str j => obtain ⟨t', rfl⟩ := ry; exact ne_str (fin_bl I q (congrArg not dec_str))
    | _ => exact absurd (show false = true from hs) Bool.false_ne_true
  | byt i =>
    obtain ⟨t, rfl⟩ := rx
    cases y with
    | byt j => obtain ⟨t', rfl⟩ := ry; exact PySem.W.ne_bytes (fin_bl I q (congrArg not dec_byt))
    | _ => exact absurd (show false = true from hs) Bool.false_ne_true
  | _ => cases y <;> exact absurd (show false = true from hs) Bool.false_ne_true

theorem op_lt : OpR X (compareOp .Lt) (rI0 fun i j => .bl (decide (i < j))) := opB0 fun _ _ _ _ _ _ _ q => lt_int q
theorem op_le : OpR X (compareOp .LtE) (rI0 fun i j => .bl (decide (i ≤ j))) := opB0 fun _ _ _ _ _ _ _ q => le_int q
theorem op_gt : OpR X (compareOp .Gt) (rI0 fun i j => .bl (decide (j < i))) := opB0 fun _ _ _ _ _ _ _ q => gt_int q
theorem op_ge : OpR X (compareOp .GtE) (rI0 fun i j => .bl (decide (j ≤ i))) := opB0 fun _ _ _ _ _ _ _ q => ge_int q
theorem op_lt_str : OpR X (compareOp .Lt) (fun x y H Q => ∃ i j, x = .str i ∧ y = .str j ∧ Q (.bl (decide (i.cps.toList < j.cps.toList))) H) := by
  intro pins s σ H x y v u Q I rx ry h
  obtain ⟨i, j, rfl, rfl, q⟩ := h
  obtain ⟨t, rfl⟩ := rx
  obtain ⟨t', rfl⟩ := ry
  exact lt_str (fin_bl I q rfl)
/-- the one string within the other -/
theorem op_in_str : OpR X (compareOp .In) (fun x y H Q => ∃ i j, x = .str i ∧ y = .str j ∧ Q (.bl (!(Builtin.Str.occurrences j i 0 j.length 1).isEmpty)) H) := by
  intro pins s σ H x y v u Q I rx ry h
  obtain ⟨i, j, rfl, rfl, q⟩ := h
  obtain ⟨t, rfl⟩ := rx
  obtain ⟨t', rfl⟩ := ry
  exact in_str (fin_bl I q rfl)

/-- is None, is not None: the right side a value none -/
theorem op_isN : OpR X (compareOp .Is) (fun x y H Q => y = .non ∧ Q (.bl (decide (x = .non))) H) := by
  intro pins s σ H x y v u Q I rx ry h
  obtain ⟨rfl, q⟩ := h
  cases ry
  refine is_none_gen (fin_bl I q ?_)
  cases x <;> first
    | (cases rx; rfl)
    | (obtain ⟨t, rfl⟩ := rx; rfl)
theorem op_notN : OpR X (compareOp .IsNot) (fun x y H Q => y = .non ∧ Q (.bl (!decide (x = .non))) H) := by
  intro pins s σ H x y v u Q I rx ry h
  obtain ⟨rfl, q⟩ := h
  cases ry
  refine isnot_none_gen (fin_bl I q ?_)
  cases x <;> first
    | (cases rx; rfl)
    | (obtain ⟨t, rfl⟩ := rx; rfl)

theorem op_notin_str : OpR X (compareOp .NotIn) (fun x y H Q => ∃ i j, x = .str i ∧ y = .str j ∧ Q (.bl (!(!(Builtin.Str.occurrences j i 0 j.length 1).isEmpty))) H) := by
  intro pins s σ H x y v u Q I rx ry h
  obtain ⟨i, j, rfl, rfl, q⟩ := h
  obtain ⟨t, rfl⟩ := rx
  obtain ⟨t', rfl⟩ := ry
  exact notIn_str (fin_bl I q rfl)
/-- is, is not of two objects that are tracked lists or instances -/
def isObj : HO → Bool
  | .lst _ => true
  | .ins _ _ _ => true
  | _ => false
theorem obj_there {pins : List (Addr × Obj)} {s : Shared} {σ : St} {H : Hp} {a : Addr} {o : HO} (I : Inv X pins σ H s) (h : H a = some o) (p : isObj o = true) : ∃ ob, s.heap.get? a = some ob ∧ ob.cls ≠ .type "tuple" := by
  cases o with
  | lst xs =>
    obtain ⟨_, its, n, _, e⟩ : xs.length ≤ sizeLine ∧ ∃ (its : List Value) (n : Nat), Vals xs its ∧ s.heap.get? a = some { cls := .type "list", data := .seq its.toArray n } := I.hok a _ h
    exact ⟨_, e, (by show Value.type "list" ≠ .type "tuple"; decide +kernel)⟩
  | ins C dx fs =>
    have x := I.hok a _ h
    obtain ⟨_, _, _, e, _⟩ := x
    exact ⟨_, e, (by show Value.ref C ≠ .type "tuple"; exact fun z => by cases z)⟩
  | _ => exact absurd (show false = true from p) Bool.false_ne_true
theorem op_is_ref : OpR X (compareOp .Is) (fun x y H Q => ∃ a b oa ob, x = .ref a ∧ y = .ref b ∧ H a = some oa ∧ isObj oa = true ∧ H b = some ob ∧ isObj ob = true ∧ Q (.bl (decide (a = b))) H) := by
  intro pins s σ H x y v u Q I rx ry h
  obtain ⟨a, b, oa, ob, rfl, rfl, ha, pa, hb, pb, q⟩ := h
  cases rx
  cases ry
  obtain ⟨o1, e1, n1⟩ := obj_there I ha pa
  obtain ⟨o2, e2, _⟩ := obj_there I hb pb
  by_cases z : a = b
  · subst z
    exact wpAny_is_ref_self (fin_bl I q (by simp))
  · exact wpAny_is_ref_other z e1 e2 n1 (fin_bl I q (by simp [z]))
theorem op_isnot_ref : OpR X (compareOp .IsNot) (fun x y H Q => ∃ a b oa ob, x = .ref a ∧ y = .ref b ∧ H a = some oa ∧ isObj oa = true ∧ H b = some ob ∧ isObj ob = true ∧ Q (.bl (!decide (a = b))) H) := by
  intro pins s σ H x y v u Q I rx ry h
  obtain ⟨a, b, oa, ob, rfl, rfl, ha, pa, hb, pb, q⟩ := h
  cases rx
  cases ry
  obtain ⟨o1, e1, n1⟩ := obj_there I ha pa
  obtain ⟨o2, e2, _⟩ := obj_there I hb pb
  by_cases z : a = b
  · subst z
    exact wpAny_isNot_ref_self (fin_bl I q (by simp))
  · exact wpAny_isNot_ref_other z e1 e2 n1 (fin_bl I q (by simp [z]))

/-- two rules for one operation: by cases -/
theorem OpR.or {f : Value → Value → Sem Value} {r r' : R2} (h : OpR X f r) (h' : OpR X f r') : OpR X f (fun x y H Q => r x y H Q ∨ r' x y H Q) := by
  intro pins s σ H x y v u Q I rx ry q
  rcases q with q | q
  · exact h pins s σ H x y v u Q I rx ry q
  · exact h' pins s σ H x y v u Q I rx ry q

theorem nomark (b : Expr) {op : CmpOp} (h : op ≠ .In := by decide) (h2 : op ≠ .NotIn := by decide) : behindInMarks op b = false := by
  have e1 : (op == CmpOp.In) = false := by cases op <;> first | rfl | exact absurd rfl h
  have e2 : (op == CmpOp.NotIn) = false := by cases op <;> first | rfl | exact absurd rfl h2
  cases b <;> simp [behindInMarks, e1, e2]
/-- a comparison as a value; hm: nomark b, or (for in, not in) by with_unfolding_all rfl -/
theorem pe_cmpR {op : CmpOp} {r : R2} (ho : OpR X (compareOp op) r) (ha : PE X a ta) (hb : PE X b tb) (hm : behindInMarks op b = false) : PE X (.Compare a [op] [b] pos) (tOp r ta tb) := by
  intro pins s σ H Q I h
  exact wpAny_Compare1 (binT ha hb I h fun v u s2 x y H2 I2 rx ry q => ho pins s2 σ H2 x y v u Q I2 rx ry q) hm
/-- a reading of a value as a test -/
def tTest (t : TE) : TT := fun σ H Q => t σ H fun x H' => ∃ k, x = .bl k ∧ Q k H'
theorem pt_cmpR {op : CmpOp} {r : R2} (ho : OpR X (compareOp op) r) (ha : PE X a ta) (hb : PE X b tb) (hm : behindInMarks op b = false) : PT X (.Compare a [op] [b] pos) (tTest (tOp r ta tb)) := by
  intro pins s σ H Q I h
  refine wpAny_isTrue_Compare1 (thn (ha pins s σ H _ I h) fun v s1 ⟨x, H1, I1, r1, q1⟩ => thn (hb pins s1 σ H1 _ I1 q1) fun u s2 ⟨y, H2, I2, r2, q2⟩ =>
    thn (ho pins s2 σ H2 x y v u _ I2 r1 r2 q2) fun c s3 ⟨z, H3, I3, r3, k, e, q3⟩ => ?_) hm
  subst e
  cases r3
  exact wpAny_truthy_bool ⟨H3, I3, q3⟩
/-- a op1 b op2 c -/
def tChain (r r' : R2) (ta tb tc : TE) : TE := fun σ H Q => ta σ H fun x H1 => tb σ H1 fun y H2 => r x y H2 fun z H3 => ∃ k, z = .bl k ∧
  (if k = true then tc σ H3 fun w' H4 => r' y w' H4 Q else Q (.bl false) H3)
theorem pe_chain {op op' : CmpOp} {r r' : R2} (ho : OpR X (compareOp op) r) (ho' : OpR X (compareOp op') r') (ha : PE X a ta) (hb : PE X b tb) (hc : PE X c tc)
    (hm : lastMarks [op, op'] [b, c] = false := by with_unfolding_all rfl) : PE X (.Compare a [op, op'] [b, c] pos) (tChain r r' ta tb tc) := by
  intro pins s σ H Q I h
  refine Compare_chain (thn (ha pins s σ H _ I h) fun v s1 ⟨x, H1, I1, r1, q1⟩ => chain_link (thn (hb pins s1 σ H1 _ I1 q1) fun u s2 ⟨y, H2, I2, r2, q2⟩ =>
    thn (ho pins s2 σ H2 x y v u _ I2 r1 r2 q2) fun d s3 ⟨z, H3, I3, r3, k, e, q3⟩ => ?_)) hm
  subst e
  cases r3
  refine wpAny_truthy_bool ?_
  cases k with
  | false => exact ite_ff ⟨.bl false, H3, I3, rfl, q3⟩
  | true => exact ite_tt (chain_last (thn (hc pins s3 σ H3 _ I3 q3) fun w' s4 ⟨z', H4, I4, r4, q4⟩ => ho' pins s4 σ H4 y z' u w' Q I4 r2 r4 q4))
theorem pt_chain {op op' : CmpOp} {r r' : R2} (ho : OpR X (compareOp op) r) (ho' : OpR X (compareOp op') r') (ha : PE X a ta) (hb : PE X b tb) (hc : PE X c tc)
    (hm : lastMarks [op, op'] [b, c] = false := by with_unfolding_all rfl) : PT X (.Compare a [op, op'] [b, c] pos) (tTest (tChain r r' ta tb tc)) := by
  intro pins s σ H Q I h
  refine isTrue_chain (thn (ha pins s σ H _ I h) fun v s1 ⟨x, H1, I1, r1, q1⟩ => test_link (thn (hb pins s1 σ H1 _ I1 q1) fun u s2 ⟨y, H2, I2, r2, q2⟩ =>
    thn (ho pins s2 σ H2 x y v u _ I2 r1 r2 q2) fun d s3 ⟨z, H3, I3, r3, k, e, q3⟩ => ?_)) hm
  subst e
  cases r3
  refine wpAny_truthy_bool ?_
  cases k with
  | false =>
    obtain ⟨k', e', q'⟩ := q3
    cases e'
    exact ite_ff ⟨H3, I3, q'⟩
  | true =>
    refine ite_tt (test_last (thn (hc pins s3 σ H3 _ I3 q3) fun w' s4 ⟨z', H4, I4, r4, q4⟩ => thn (ho' pins s4 σ H4 y z' u w' _ I4 r2 r4 q4) fun d' s5 ⟨z2, H5, I5, r5, k2, e2, q5⟩ => ?_))
    subst e2
    cases r5
    exact wpAny_truthy_bool ⟨H5, I5, q5⟩

/-! ### truth -/
/-- a value's truth by the abstract heap -/
def TruV (K : PySem.W.Frag) (x : V) (H : Hp) (k : Bool) : Prop :=
  match x with
  | .non => k = false
  | .bl b => k = b
  | .int i => k = (i != 0)
  | .str y => y.length ≤ sizeLine ∧ k = ((y.length : Int) != 0)
  | .byt y => y.size ≤ sizeLine ∧ k = ((y.size : Int) != 0)
  | .ref p => (∃ xs, SqL K H p xs ∧ k = !xs.isEmpty) ∨ (∃ xs, SqT K H p xs ∧ k = !xs.isEmpty) ∨ ∃ kvs, H p = some (.dK kvs) ∧ k = !kvs.isEmpty
  | _ => False
theorem isEmpty_kv {κ : Type} {kvs : List (κ × V)} {vs : List (κ × Value)} (r : KV kvs vs) : (!vs.isEmpty) = !kvs.isEmpty := by
  cases r <;> rfl
theorem isEmpty_of {xs : List V} {its : List Value} (r : Vals xs its) : (!its.toArray.isEmpty) = !xs.isEmpty := by
  cases r <;> simp
theorem line63 : (sizeLine : Nat) < 2 ^ 63 := by rw [sizeLine_eq]; decide
theorem tru_ok : TruR X (fun x H Q => ∃ k, TruV X.K x H k ∧ Q k H) := by
  intro pins s σ H x v Q I rx h
  obtain ⟨k, e, q⟩ := h
  have hl := line63
  have hs : sizeLine = 16777216 := sizeLine_eq
  cases x with
  | non =>
    cases rx
    have e' : k = false := e
    subst e'
    exact truthy_none ⟨H, I, q⟩
  | bl b =>
    cases rx
    have e' : k = b := e
    subst e'
    exact wpAny_truthy_bool ⟨H, I, q⟩
  | int i =>
    obtain ⟨t, rfl⟩ := rx
    have e' : k = (i != 0) := e
    subst e'
    exact PySem.P.truthy_int ⟨H, I, q⟩
  | str y =>
    obtain ⟨t, rfl⟩ := rx
    obtain ⟨hy, e'⟩ : y.length ≤ sizeLine ∧ k = ((y.length : Int) != 0) := e
    subst e'
    exact PySem.P.truthy_str (by omega) ⟨H, I.tok _, q⟩
  | byt y =>
    obtain ⟨t, rfl⟩ := rx
    obtain ⟨hy, e'⟩ : y.size ≤ sizeLine ∧ k = ((y.size : Int) != 0) := e
    subst e'
    exact PySem.W.truthy_bytes (by omega) ⟨H, I.tok _, q⟩
  | ref p =>
    cases rx
    have e' : (∃ xs, SqL X.K H p xs ∧ k = !xs.isEmpty) ∨ (∃ xs, SqT X.K H p xs ∧ k = !xs.isEmpty) ∨ ∃ kvs, H p = some (.dK kvs) ∧ k = !kvs.isEmpty := e
    rcases e' with ⟨xs, hx, e'⟩ | ⟨xs, hx, e'⟩ | ⟨kvs, hx, e'⟩
    · subst e'
      obtain ⟨its, r, pl, hz⟩ := I.list hx
      have hlen := r.length
      exact wpAny_truthy_list pl.isList (by simp only [List.size_toArray]; omega) ⟨H, I.tok _, by rw [isEmpty_of r]; exact q⟩
    · subst e'
      obtain ⟨its, r, pl, hz⟩ := I.tuple hx
      have hlen := r.length
      exact truthy_tuple pl (by simp only [List.size_toArray]; omega) ⟨H, I.tok _, by rw [isEmpty_of r]; exact q⟩
    · subst e'
      obtain ⟨hz, hS, vs, r, m⟩ : kvs.length ≤ sizeLine ∧ (p == sysModules) = false ∧ ∃ vs, KV kvs vs ∧ s.heap.DictOf (mixKind X.prog X.w) p vs := I.hok p _ hx
      have hlen : kvs.length = vs.length := Paired.length r
      exact wpAny_truthy_dict hS m (by omega) ⟨H, I.tok _, by rw [isEmpty_kv r]; exact q⟩
  | _ => exact (show False from e).elim
/-- any expression whose test is its value's truth (a name, a call, a subscript, a field ..: he by fun _ => rfl) -/
theorem pt_truth (ha : PE X a ta) (he : ∀ whole, isTrue a X.env whole = (do let v ← whole; standAt a.pos; holding [v] (truthy v))) :
    PT X a (fun σ H Q => ta σ H fun x H' => ∃ k, TruV X.K x H' k ∧ Q k H') := by
  intro pins s σ H Q I h
  exact isTrue_plain (thn (ha pins s σ H _ I h) fun v s1 ⟨x, H1, I1, r1, q1⟩ => tru_ok pins s1 σ H1 x v Q I1 r1 q1) (he _)

/-! ### strs and bytes -/
theorem pe_byt {x : List UInt8} {k : Nat} : PE X (.Constant (.bytes x) k pos) (fun _ H Q => Q (.byt x.toArray) H) := fun _ _ _ H _ I h => PySem.W.Constant_bytes ⟨.byt x.toArray, H, I.tok _, ⟨_, rfl⟩, h⟩
theorem op_add_str : OpR X (binaryOp .Add) (fun x y H Q => ∃ i j, x = .str i ∧ y = .str j ∧ i.length + j.length ≤ sizeLine ∧ Q (.str (i ++ j)) H) := by
  intro pins s σ H x y v u Q I rx ry h
  obtain ⟨i, j, rfl, rfl, hz, q⟩ := h
  obtain ⟨t, rfl⟩ := rx
  obtain ⟨t', rfl⟩ := ry
  exact add_str (fun t' tk => ⟨.str (i ++ j), H, I.tok _, ⟨_, rfl⟩, q⟩) hz
theorem iop_add_str : OpR X (inplaceOp .Add) (fun x y H Q => ∃ i j, x = .str i ∧ y = .str j ∧ i.length + j.length ≤ sizeLine ∧ Q (.str (i ++ j)) H) := by
  intro pins s σ H x y v u Q I rx ry h
  obtain ⟨i, j, rfl, rfl, hz, q⟩ := h
  obtain ⟨t, rfl⟩ := rx
  obtain ⟨t', rfl⟩ := ry
  exact iadd_str (fun t' tk => ⟨.str (i ++ j), H, I.tok _, ⟨_, rfl⟩, q⟩) hz
theorem op_add_byt : OpR X (binaryOp .Add) (fun x y H Q => ∃ i j, x = .byt i ∧ y = .byt j ∧ i.size + j.size ≤ 16777216 ∧ Q (.byt (i ++ j)) H) := by
  intro pins s σ H x y v u Q I rx ry h
  obtain ⟨i, j, rfl, rfl, hz, q⟩ := h
  obtain ⟨t, rfl⟩ := rx
  obtain ⟨t', rfl⟩ := ry
  exact PySem.W.KBy.add_bytes hz (fun t' tk => ⟨.byt (i ++ j), H, I.tok _, ⟨_, rfl⟩, q⟩)

def PlainIxT (b : Expr) : Prop := ∀ o i, subscripted b false o i = operate [o, i] (getItem o i)
/-- s[i], 0 ≤ i < len -/
theorem pe_item_str (ha : PE X a ta) (hb : PE X b tb) (hs : PlainIxT b) :
    PE X (.Subscript a b pos) (tOp (fun x y H Q => ∃ z i c, x = .str z ∧ y = .int i ∧ 0 ≤ i ∧ i < 2 ^ 63 ∧ i < z.length ∧ z.cps[i.toNat]? = some c ∧ Q (.str ⟨#[c]⟩) H) ta tb) := by
  intro pins s σ H Q I h
  refine Subscript_ (binT ha hb I h fun v u s2 x y H2 I2 rx ry q => ?_)
  obtain ⟨z, i, c, rfl, rfl, h0, h63, h1, hc, q⟩ := q
  obtain ⟨t, rfl⟩ := rx
  obtain ⟨t', rfl⟩ := ry
  have e : seqIndex? i z.length = some i.toNat := PySem.StrLaws.seqIndex_nonneg h0 h1
  exact tail_any (typeIs_str s2 z t) slot_str_getitem.lookup (getItem_str (c := c) (by
    have e1 : decide (i < -(2 ^ 63 : Int)) = false := decide_eq_false (by omega)
    have e2 : decide (i ≥ 2 ^ 63) = false := decide_eq_false (by omega)
    rw [e1, e2] <;> rfl) (by rw [e]; exact hc) ⟨.str ⟨#[c]⟩, H2, I2.tok _, ⟨_, rfl⟩, q⟩) (hs _ _)
/-- b[i], 0 ≤ i < len -/
theorem pe_item_byt (ha : PE X a ta) (hb : PE X b tb) (hs : PlainIxT b) :
    PE X (.Subscript a b pos) (tOp (fun x y H Q => ∃ (z : List UInt8) (i : Int), x = .byt z.toArray ∧ y = .int i ∧ z.length ≤ sizeLine ∧ 0 ≤ i ∧ i < z.length ∧ Q (.int ((z.getD i.toNat 0).toNat : Nat)) H) ta tb) := by
  intro pins s σ H Q I h
  refine Subscript_ (binT ha hb I h fun v u s2 x y H2 I2 rx ry q => ?_)
  obtain ⟨z, i, rfl, rfl, hz, h0, h1, q⟩ := q
  obtain ⟨t, rfl⟩ := rx
  obtain ⟨t', rfl⟩ := ry
  have hl : sizeLine = 16777216 := sizeLine_eq
  exact tail_any (PySem.W.typeIs_bytes s2 z.toArray t) PySem.W.FB.slot_bytes_getitem.lookup (PySem.W.getItem_bytes (by omega) h0 h1 ⟨.int ((z.getD i.toNat 0).toNat : Nat), H2, I2.tok _, ⟨_, rfl⟩, q⟩) (hs _ _)

/-! ### scalar builtins, by CallR -/
theorem vals1 {x : V} {us : List Value} (r : Vals [x] us) : ∃ u, us = [u] ∧ RelV x u := by
  cases r with
  | cons r1 r2 => cases r2; exact ⟨_, rfl, r1⟩
theorem vals2 {x y : V} {us : List Value} (r : Vals [x, y] us) : ∃ u w', us = [u, w'] ∧ RelV x u ∧ RelV y w' := by
  cases r with
  | cons r1 r2 =>
    cases r2 with
    | cons r3 r4 => cases r4; exact ⟨_, _, rfl, r1, r3⟩
theorem call_abs : CallR X (.builtin "abs") (fun xs H Q => ∃ i, xs = [.int i] ∧ Q (.int (if i < 0 then -i else i)) H) := by
  intro pins s σ H xs us Q I r h
  obtain ⟨i, rfl, q⟩ := h
  obtain ⟨u, rfl, t, rfl⟩ := vals1 r
  exact call_abs_int fun u tk => ⟨.int (if i < 0 then -i else i), H, I.tok _, ⟨_, rfl⟩, q⟩
theorem call_max2 (hc : X.calm = true) : CallR X (.builtin "max") (fun xs H Q => ∃ i j, xs = [.int i, .int j] ∧ Q (.int (if j > i then j else i)) H) := by
  intro pins s σ H xs us Q I r h
  obtain ⟨i, j, rfl, q⟩ := h
  obtain ⟨u, w', rfl, ⟨t, rfl⟩, ⟨t', rfl⟩⟩ := vals2 r
  refine max_two_ints (I.ok.hd hc) fun h' tk k => ⟨_, H, I.kept k, ?_, q⟩
  by_cases hj : j > i
  · rw [if_pos hj, if_pos hj]; exact ⟨_, rfl⟩
  · rw [if_neg hj, if_neg hj]; exact ⟨_, rfl⟩
theorem call_min2 (hc : X.calm = true) : CallR X (.builtin "min") (fun xs H Q => ∃ i j, xs = [.int i, .int j] ∧ Q (.int (if j < i then j else i)) H) := by
  intro pins s σ H xs us Q I r h
  obtain ⟨i, j, rfl, q⟩ := h
  obtain ⟨u, w', rfl, ⟨t, rfl⟩, ⟨t', rfl⟩⟩ := vals2 r
  refine min_two_ints (I.ok.hd hc) fun h' tk k => ⟨_, H, I.kept k, ?_, q⟩
  by_cases hj : j < i
  · rw [if_pos hj, if_pos hj]; exact ⟨_, rfl⟩
  · rw [if_neg hj, if_neg hj]; exact ⟨_, rfl⟩
theorem call_int1 : CallR X (.type "int") (fun xs H Q => (∃ i, xs = [.int i] ∧ Q (.int i) H) ∨ ∃ k, xs = [.bl k] ∧ Q (.int (if k then 1 else 0)) H) := by
  intro pins s σ H xs us Q I r h
  rcases h with ⟨i, rfl, q⟩ | ⟨k, rfl, q⟩
  · obtain ⟨u, rfl, t, rfl⟩ := vals1 r
    exact call_int_int ⟨.int i, H, I, ⟨_, rfl⟩, q⟩
  · obtain ⟨u, rfl, r1⟩ := vals1 r
    cases r1
    exact call_int_bool ⟨.int (if k then 1 else 0), H, I.tok _, ⟨_, rfl⟩, q⟩
theorem call_bool1 : CallR X (.type "bool") (fun xs H Q => (∃ i, xs = [.int i] ∧ Q (.bl (i != 0)) H) ∨ ∃ k, xs = [.bl k] ∧ Q (.bl k) H) := by
  intro pins s σ H xs us Q I r h
  rcases h with ⟨i, rfl, q⟩ | ⟨k, rfl, q⟩
  · obtain ⟨u, rfl, t, rfl⟩ := vals1 r
    exact call_bool_int ⟨.bl (i != 0), H, I, rfl, q⟩
  · obtain ⟨u, rfl, r1⟩ := vals1 r
    cases r1
    exact call_bool_bool ⟨.bl k, H, I, rfl, q⟩
theorem call_str_int : CallR X (.type "str") (fun xs H Q => ∃ i, xs = [.int i] ∧ i.natAbs.log2 < 1920 ∧ Q (.str (toString i)) H) := by
  intro pins s σ H xs us Q I r h
  obtain ⟨i, rfl, hz, q⟩ := h
  obtain ⟨u, rfl, t, rfl⟩ := vals1 r
  exact PySem.P.str_of_int hz ⟨.str _, H, I.tok _, ⟨_, rfl⟩, q⟩
theorem call_ord : CallR X (.builtin "ord") (fun xs H Q => ∃ x, xs = [.str x] ∧ x.length = 1 ∧ Q (.int (x.cps.getD 0 0 : Nat)) H) := by
  intro pins s σ H xs us Q I r h
  obtain ⟨x, rfl, hz, q⟩ := h
  obtain ⟨u, rfl, t, rfl⟩ := vals1 r
  exact ord_of_one hz ⟨.int _, H, I.tok _, ⟨_, rfl⟩, q⟩
theorem call_chr : CallR X (.builtin "chr") (fun xs H Q => ∃ i, xs = [.int i] ∧ 0 ≤ i ∧ i ≤ 1114111 ∧ Q (.str ⟨#[i.toNat]⟩) H) := by
  intro pins s σ H xs us Q I r h
  obtain ⟨i, rfl, h0, h1, q⟩ := h
  obtain ⟨u, rfl, t, rfl⟩ := vals1 r
  exact chr_of_range h0 h1 ⟨.str _, H, I.tok _, ⟨_, rfl⟩, q⟩
/-- len of a str, a bytes, a list, a tuple -/
def LenV (K : PySem.W.Frag) (x : V) (H : Hp) (n : Nat) : Prop :=
  match x with
  | .str y => y.length ≤ sizeLine ∧ n = y.length
  | .byt y => y.size ≤ sizeLine ∧ n = y.size
  | .ref p => (∃ xs, SqL K H p xs ∧ n = xs.length) ∨ ∃ xs, SqT K H p xs ∧ n = xs.length
  | _ => False
theorem call_len : CallR X (.builtin "len") (fun xs H Q => ∃ x n, xs = [x] ∧ LenV X.K x H n ∧ Q (.int n) H) := by
  intro pins s σ H xs us Q I r h
  obtain ⟨x, n, rfl, e, q⟩ := h
  obtain ⟨u, rfl, rx⟩ := vals1 r
  have hl := line63
  have hs : sizeLine = 16777216 := sizeLine_eq
  cases x with
  | str y =>
    obtain ⟨t, rfl⟩ := rx
    obtain ⟨hy, e'⟩ : y.length ≤ sizeLine ∧ n = y.length := e
    subst e'
    exact len_str (by omega) ⟨.int _, H, I.tok _, ⟨_, rfl⟩, q⟩
  | byt y =>
    obtain ⟨t, rfl⟩ := rx
    obtain ⟨hy, e'⟩ : y.size ≤ sizeLine ∧ n = y.size := e
    subst e'
    exact PySem.W.len_bytes (by omega) ⟨.int _, H, I.tok _, ⟨_, rfl⟩, q⟩
  | ref p =>
    cases rx
    have e' : (∃ xs, SqL X.K H p xs ∧ n = xs.length) ∨ ∃ xs, SqT X.K H p xs ∧ n = xs.length := e
    rcases e' with ⟨xs, hx, e'⟩ | ⟨xs, hx, e'⟩
    · subst e'
      obtain ⟨its, r', pl, hz⟩ := I.list hx
      have hlen := r'.length
      exact Calls.call_len_list pl.isList (by simp only [List.size_toArray]; omega) ⟨.int xs.length, H, I.tok _, ⟨_, by simp only [List.size_toArray]; rw [hlen]⟩, q⟩
    · subst e'
      obtain ⟨its, r', pl, hz⟩ := I.tuple hx
      have hlen := r'.length
      exact len_tuple pl (by simp only [List.size_toArray]; omega) ⟨.int xs.length, H, I.tok _, ⟨_, by simp only [List.size_toArray]; rw [hlen]⟩, q⟩
  | _ => exact (show False from e).elim
/-- divmod: a new tuple -/
theorem call_divmod : CallR X (.builtin "divmod") (fun xs H Q => ∃ i j, xs = [.int i, .int j] ∧ CDiv i j ∧ ∀ p, H p = none → Q (.ref p) (upd H p (.tup [.int (i / j), .int (i % j)]))) := by
  intro pins s σ H xs us Q I r h
  obtain ⟨i, j, rfl, ⟨h1, h2⟩, q⟩ := h
  obtain ⟨u, w', rfl, ⟨t, rfl⟩, ⟨t', rfl⟩⟩ := vals2 r
  refine divmod_int (by omega) ?_ (.inl (PyProof.noPylong_small (by omega)))
  rw [Int.fdiv_eq_ediv_of_nonneg i (by omega), Int.fmod_eq_emod_of_nonneg i (by omega)]
  have hn : H s.heap.objs.size = none := I.hok.fresh (Nat.le_refl _)
  refine ⟨.ref s.heap.objs.size, _, ?_, rfl, q _ hn⟩
  refine I.laid (fun b o e => Heap.get?_push_of_some _ e) (Nat.le_refl _) ⟨by simp only [List.length_cons, List.length_nil]; rw [sizeLine_eq]; decide, [.int (i / j) s.toks, .int (i % j) (s.toks + 1)], .cons ⟨_, rfl⟩ (.cons ⟨_, rfl⟩ .nil), ?_⟩
  exact ⟨_, Heap.get?_push_size s.heap rfl, rfl, 0, rfl⟩
end
end L2

namespace L2
open PySem PySem.Spec PyProof.Rows

/-! ### an instance, its attributes a map -/
structure ObjM (h : Heap) (x dx C : Addr) (mA : Str → Option Value) : Prop where
  obj : h.get? x = some (PySem.W.instObj C dx)
  ns : h.Ns1 dx mA
  ne : dx ≠ x

theorem lookIn_ns {h : Heap} {dx : Addr} {mA : Str → Option Value} (n : h.Ns1 dx mA) : ∃ od, h.get? dx = some od ∧ ∀ name, PySem.W.lookIn name od = some (mA name) := by
  obtain ⟨o, es, ep, ho, hd, hk, _, hm⟩ := n
  refine ⟨o, ho, fun name => ?_⟩
  have e := hm name
  unfold nsFind findBy at e
  rw [← Array.find?_toList] at e
  unfold PySem.W.lookIn
  rw [hd]
  dsimp only
  split
  · rename_i y q
    rw [q] at e
    exact congrArg some e
  · rename_i q
    rw [q] at e
    have a : es.toList.any (·.refKey) = false := by
      rw [List.any_eq_false]
      intro y hy
      obtain ⟨z, t, hkey⟩ := hk y (Array.mem_toList_iff.mp hy)
      simp [DictEntry.refKey, hkey]
    have a' : ¬ es.toList.any (·.refKey) = true := by rw [a]; exact Bool.false_ne_true
    rw [if_neg a']
    exact congrArg some e

theorem ObjM.look {h : Heap} {x dx C : Addr} {mA : Str → Option Value} (I : ObjM h x dx C mA) : ∃ od, PySem.W.InstAt h x (PySem.W.instObj C dx) C (some od) ∧ ∀ name, PySem.W.lookIn name od = some (mA name) :=
  let ⟨od, ho, hl⟩ := lookIn_ns I.ns
  ⟨od, ⟨I.obj, rfl, rfl, ho⟩, hl⟩

section
variable {prog : Program} {w : World} {A : Around} {E : Value → Shared → Prop} {s : Shared} {K : PySem.W.Frag} {x dx C f : Addr} {mA : Str → Option Value} {name : Str} {v : Value}

theorem get_map {expr : Bool} {Q : Value → Shared → Prop} (X : K.In s.heap) (I : ObjM s.heap x dx C mA) (hg : PySem.W.plainGet K C name = true) (hh : PySem.W.hasDictIn K C = true)
    (ha : PySem.W.findIn K (.ref C) name = some none) (hv : mA name = some v) (hv' : PySem.W.handedIn v = true) (h : Q v { s with toks := s.toks + 1 }) :
    wpAny (model prog w) A (getAttr (.ref x) name expr) Q E s := by
  obtain ⟨od, J, hl⟩ := I.look
  exact PySem.W.get_value X J (PySem.W.plainGet_of hg).1 (PySem.W.findObj_own hh ha rfl (by rw [hl, hv])) hv' h

theorem get_const {expr : Bool} {a : Value} {Q : Value → Shared → Prop} (X : K.In s.heap) (I : ObjM s.heap x dx C mA) (hg : PySem.W.plainGet K C name = true) (hh : PySem.W.hasDictIn K C = true)
    (ha : PySem.W.findIn K (.ref C) name = some (some a)) (hn : PySem.W.specialIn K a "__get__" = some none) (hc : PySem.W.copiedNames.contains name = false) (hv : mA name = none) (hv' : PySem.W.handedIn a = true)
    (h : Q a { s with toks := s.toks + 1 }) : wpAny (model prog w) A (getAttr (.ref x) name expr) Q E s := by
  obtain ⟨od, J, hl⟩ := I.look
  exact PySem.W.get_value X J (PySem.W.plainGet_of hg).1 (PySem.W.findObj_cls hh ha hn hv' hc (by rw [hl, hv])) hv' h

theorem get_meth {pl : Sem Bool} {Q : Value × List Value → Shared → Prop} (X : K.In s.heap) (I : ObjM s.heap x dx C mA) (hg : PySem.W.plainGet K C name = true)
    (hf : PySem.W.findIn K (.ref C) name = some (some (.ref f))) (ht : PySem.W.isFn K (.ref f) = true) (hv : mA name = none) (h : Q (.ref f, [.ref x]) s) :
    wpAny (model prog w) A (getMethod (.ref x) name pl) Q E s := by
  obtain ⟨od, J, hl⟩ := I.look
  exact PySem.W.method_fn X J (PySem.W.plainGet_of hg).1 (PySem.W.plainGet_of hg).2 hf (beq_iff_eq.mp ht) (by show (PySem.W.lookIn name od).map (·.isSome) = some false; rw [hl, hv]; rfl) h

theorem set_map {ns : List Str} {Q : Unit → Shared → Prop} (X : K.In s.heap) (I : ObjM s.heap x dx C mA)
    (hs : PySem.W.findIn K (.ref C) "__setattr__" = some (some (.builtin "object.__setattr__"))) (hp : PySem.W.plainOver K C = true) (ht : PySem.W.takerIn K C name = some none) (hh : PySem.W.hasDictIn K C = true)
    (hw : PySem.Within mA ns) (hsz : ns.length ≤ sizeLine)
    (h : ∀ h', ObjM h' x dx C (fun y => if y = name then some v else mA y) → Heap.SameBut dx s.heap h' → Q () { s with heap := h', toks := s.toks + 2 }) :
    wpAny (model prog w) A (setAttr (.ref x) name v) Q E s := by
  obtain ⟨od, J, hl⟩ := I.look
  refine PySem.W.set_plain X J hs (PySem.W.osa_open (s := { s with toks := s.toks + 1 }) (r := none) X J hp ht fun b => ?_)
  obtain ⟨cd, hc, hd'⟩ := PySem.W.any_some hh
  have hx : s.heap.get? x = some ⟨.ref C, some dx, .plain, #[]⟩ := I.obj
  refine wpAny_bind (wpAny_pure (wpAny_bind (wpAny_bind (wpAny_loadPart hx (wpAny_bind (PySem.W.Looks.here (s := { s with toks := s.toks + 1 }) (PySem.W.looks_clsIn X hc) ?_))))))
  rw [hd']
  refine wpAny_pure (a := some dx) (wpAny_bind (wpAny_pure (wpAny_bind ?_)))
  refine wpAny_nsSet1 (s := { s with toks := s.toks + 1 }) I.ns fun h' hn2 hs2 => ?_
  obtain ⟨oD, esD, epD, hoD, hdD, hcD⟩ := hn2.count (PySem.Within.cons name v hw)
  refine wpAny_bind (wpAny_lookBehind hoD (by rw [hdD]; exact pastItsLine_dict (Nat.le_trans hcD (by rw [List.length_cons]; omega))) ?_)
  exact wpAny_pure (h _ ⟨(hs2.2 _ (Ne.symm I.ne)).trans I.obj, hn2, I.ne⟩ hs2)

/-- C(..): the dict at the heap's end, the instance behind it; then its __init__ -/
theorem make_map {R : Result → Shared → Prop} {vs : List Value} {kw : List (Str × Value)} (X : K.In s.heap) (hm : PySem.W.makesIn K C = true)
    (hi : PySem.W.findIn K (.ref C) "__init__" = some (some (.ref f))) (hf : PySem.W.typeIn K (.ref f) = some (.type "function"))
    (h : codeAny (model prog w) (A.under (.builtin "type.__call__" ⟨.ref C :: vs, kw⟩)) (.call (.ref f) ⟨.ref (s.heap.objs.size + 1) :: vs, kw⟩) (PySem.W.InitBack (s.heap.objs.size + 1) R)
      { s with heap := (s.heap.push PySem.W.emptyDict).push (PySem.W.instObj C s.heap.objs.size) }) :
    codeAny (model prog w) A (.call (.ref C) ⟨vs, kw⟩) R s := by
  obtain ⟨hh, g, d, t, os⟩ := s
  exact PySem.W.make_core (PySem.W.makes_of X hm) (PySem.W.looks_findIn X hi) (fun self => PySem.W.bind_fn X self hf) (.inl rfl) h
/-- C() where there is no __init__ but object's -/
theorem make_map0 {R : Result → Shared → Prop} (X : K.In s.heap) (hm : PySem.W.makesIn K C = true)
    (hi : PySem.W.findIn K (.ref C) "__init__" = some (some (.builtin "object.__init__")))
    (hb : ∀ self, PySem.W.Looks (model prog w) s.heap (bindSpecial (.builtin "object.__init__") self) (.builtin "object.__init__", [self]))
    (h : codeAny (model prog w) (A.under (.builtin "type.__call__" ⟨[.ref C], []⟩)) (.call (.builtin "object.__init__") ⟨[.ref (s.heap.objs.size + 1)], []⟩) (PySem.W.InitBack (s.heap.objs.size + 1) R)
      { s with heap := (s.heap.push PySem.W.emptyDict).push (PySem.W.instObj C s.heap.objs.size) }) :
    codeAny (model prog w) A (.call (.ref C) ⟨[], []⟩) R s := by
  obtain ⟨hh, g, d, t, os⟩ := s
  exact PySem.W.make_core (PySem.W.makes_of X hm) (PySem.W.looks_findIn X hi) hb (.inr ⟨rfl, rfl⟩) h
end

/-! ### the attributes as a list of pairs -/
def putF (f : Str) (v : V) : List (Str × V) → List (Str × V)
  | [] => [(f, v)]
  | (g, x) :: r => if g = f then (g, v) :: r else (g, x) :: putF f v r
theorem lookup_putF (f g : Str) (v : V) : ∀ fs : List (Str × V), (putF f v fs).lookup g = if g = f then some v else fs.lookup g
  | [] => by
    show List.lookup g [(f, v)] = _
    by_cases h : g = f
    · have hb : (g == f) = true := beq_iff_eq.mpr h
      simp only [List.lookup, hb, if_pos h]
    · have hb : (g == f) = false := beq_eq_false_iff_ne.mpr h
      simp only [List.lookup, hb, if_neg h]
  | (k, x) :: r => by
    have ih := lookup_putF f g v r
    rw [show putF f v ((k, x) :: r) = (if k = f then (k, v) :: r else (k, x) :: putF f v r) from rfl]
    by_cases hk : k = f
    · rw [if_pos hk]
      by_cases h : g = k
      · have hb : (g == k) = true := beq_iff_eq.mpr h
        simp only [List.lookup, hb, if_pos (h.trans hk)]
      · have hb : (g == k) = false := beq_eq_false_iff_ne.mpr h
        simp only [List.lookup, hb, if_neg (fun e : g = f => h (e.trans hk.symm))]
    · rw [if_neg hk]
      by_cases h : g = k
      · have hb : (g == k) = true := beq_iff_eq.mpr h
        simp only [List.lookup, hb, if_neg (fun e : g = f => hk (h.symm.trans e))]
      · have hb : (g == k) = false := beq_eq_false_iff_ne.mpr h
        simp only [List.lookup, hb]
        exact ih
theorem keys_putF (f : Str) (v : V) : ∀ fs : List (Str × V), f ∈ (putF f v fs).map (·.1) ∧ ∀ g, g ∈ fs.map (·.1) → g ∈ (putF f v fs).map (·.1)
  | [] => ⟨by simp [putF], fun g h => by simp at h⟩
  | (k, x) :: r => by
    obtain ⟨i1, i2⟩ := keys_putF f v r
    rw [show putF f v ((k, x) :: r) = (if k = f then (k, v) :: r else (k, x) :: putF f v r) from rfl]
    by_cases hk : k = f
    · rw [if_pos hk]
      subst hk
      exact ⟨by simp, fun g h => by simpa using h⟩
    · rw [if_neg hk]
      refine ⟨?_, fun g h => ?_⟩
      · rw [List.map_cons]
        exact List.mem_cons_of_mem _ i1
      · rw [List.map_cons] at h ⊢
        rcases List.mem_cons.mp h with e | e
        · exact List.mem_cons.mpr (.inl e)
        · exact List.mem_cons_of_mem _ (i2 g e)
theorem length_putF (f : Str) (v : V) : ∀ fs : List (Str × V), (putF f v fs).length ≤ fs.length + 1
  | [] => by simp [putF]
  | (k, x) :: r => by
    have ih := length_putF f v r
    rw [show putF f v ((k, x) :: r) = (if k = f then (k, v) :: r else (k, x) :: putF f v r) from rfl]
    by_cases hk : k = f
    · rw [if_pos hk, List.length_cons, List.length_cons]; omega
    · rw [if_neg hk, List.length_cons, List.length_cons]; omega

theorem RelO.some_of {v : V} {o : Option Value} (r : RelO (some v) o) : ∃ u, o = some u ∧ RelV v u := by
  cases o with
  | none => exact (show False from r).elim
  | some u => exact ⟨u, rfl, r⟩
theorem RelO.none_of {o : Option Value} (r : RelO none o) : o = none := by
  cases o with
  | none => rfl
  | some u => exact (show False from r).elim
theorem handed_of {v : V} {u : Value} (r : RelV v u) : PySem.W.handedIn u = true := by
  cases v with
  | non => cases (show u = Value.none from r); rfl
  | bl b => cases (show u = Value.bool b from r); rfl
  | int i => obtain ⟨t, e⟩ := (show ∃ t, u = Value.int i t from r); cases e; rfl
  | str x => obtain ⟨t, e⟩ := (show ∃ t, u = Value.str x t from r); cases e; rfl
  | byt b => obtain ⟨t, e⟩ := (show ∃ t, u = Value.bytes b t from r); cases e; rfl
  | flt b => obtain ⟨t, e⟩ := (show ∃ t, u = Value.float b t from r); cases e; rfl
  | ref a => cases (show u = Value.ref a from r); rfl
  | ty n => cases (show u = Value.type n from r); rfl

section
variable {P : Program} {w : World} {H H' : Hp} {h h' : Heap} {a C dx : Addr} {fs fs' : List (Str × V)}
theorem ins_get (hok : HOk P w H h) (e : H a = some (.ins C dx fs)) : ∃ mA, ObjM h a dx C mA ∧ (∀ f, RelO (fs.lookup f) (mA f)) ∧ PySem.Within mA (fs.map (·.1)) ∧ fs.length ≤ 1000 ∧ H dx = some (.own a) := by
  obtain ⟨d, z, ne, ob, mA, n, r, q⟩ := (show ObjOk P w H h a (.ins C dx fs) from hok a _ e)
  exact ⟨mA, ⟨ob, n, ne⟩, r, q, z, d⟩
end

/-! ### what of the text a class must have -/
structure Cls (K : PySem.W.Frag) (C : Addr) : Prop where
  pg : PySem.W.plainGet K C Str.empty = true
  hd : PySem.W.hasDictIn K C = true
  po : PySem.W.plainOver K C = true
  sa : PySem.W.findIn K (.ref C) "__setattr__" = some (some (.builtin "object.__setattr__"))
theorem Cls.get {K : PySem.W.Frag} {C : Addr} (c : Cls K C) (f : Str) : PySem.W.plainGet K C f = true := c.pg
/-- no class of it has the name -/
def NoAttr (K : PySem.W.Frag) (C : Addr) (f : Str) : Prop := PySem.W.findIn K (.ref C) f = some none
theorem NoAttr.taker {K : PySem.W.Frag} {C : Addr} {f : Str} (n : NoAttr K C f) : PySem.W.takerIn K C f = some none := by
  unfold PySem.W.takerIn
  rw [show PySem.W.findIn K (.ref C) f = some none from n]
  rfl
/-- a constant of the class -/
structure Con (K : PySem.W.Frag) (C : Addr) (f : Str) (v : V) (u : Value) : Prop where
  at_ : PySem.W.findIn K (.ref C) f = some (some u)
  rel : RelV v u
  get : PySem.W.specialIn K u "__get__" = some none
  cp : PySem.W.copiedNames.contains f = false
/-- a method: a plain def of the class or of one above it -/
structure Meth (K : PySem.W.Frag) (C : Addr) (m : Str) (f : Addr) : Prop where
  at_ : PySem.W.findIn K (.ref C) m = some (some (.ref f))
  fn : PySem.W.isFn K (.ref f) = true
  kp : PySem.W.keepIn K (.ref f) = true

section
variable {X : Cx} {pins : List (Addr × Obj)} {σ : St} {H : Hp} {s : Shared} {a C dx : Addr} {fs : List (Str × V)} {f : Str} {v : V} {A : Around} {E : Value → Shared → Prop}

theorem getattr_ok {b : Bool} {Q : Value → Shared → Prop} (I : Inv X pins σ H s) (e : H a = some (.ins C dx fs)) (c : Cls X.K C) (n : NoAttr X.K C f) (l : fs.lookup f = some v)
    (h : ∀ u s', Inv X pins σ H s' → RelV v u → Q u s') : wpAny (model X.prog X.w) A (getAttr (.ref a) f b) Q E s := by
  obtain ⟨mA, O, r, _, _, _⟩ := ins_get I.hok e
  obtain ⟨u, hu, ru⟩ := RelO.some_of (v := v) (o := mA f) (by rw [← l]; exact r f)
  exact get_map I.kIn O (c.get f) c.hd n hu (handed_of ru) (h u _ (I.tok _) ru)

theorem getcon_ok {b : Bool} {u : Value} {Q : Value → Shared → Prop} (I : Inv X pins σ H s) (e : H a = some (.ins C dx fs)) (c : Cls X.K C) (k : Con X.K C f v u) (l : fs.lookup f = none)
    (h : ∀ s', Inv X pins σ H s' → Q u s') : wpAny (model X.prog X.w) A (getAttr (.ref a) f b) Q E s := by
  obtain ⟨mA, O, r, _, _, _⟩ := ins_get I.hok e
  have hn : mA f = none := RelO.none_of (by rw [← l]; exact r f)
  exact get_const I.kIn O (c.get f) c.hd k.at_ k.get k.cp hn (handed_of k.rel) (h _ (I.tok _))

theorem getmeth_ok {m : Str} {g : Addr} {pl : Sem Bool} {Q : Value × List Value → Shared → Prop} (I : Inv X pins σ H s) (e : H a = some (.ins C dx fs)) (c : Cls X.K C) (k : Meth X.K C m g) (l : fs.lookup m = none)
    (h : Q (.ref g, [.ref a]) s) : wpAny (model X.prog X.w) A (getMethod (.ref a) m pl) Q E s := by
  obtain ⟨mA, O, r, _, _, _⟩ := ins_get I.hok e
  have hn : mA m = none := RelO.none_of (by rw [← l]; exact r m)
  exact get_meth I.kIn O (c.get m) k.at_ k.fn hn h

theorem setattr_ok {y : V} {u : Value} {Q : Unit → Shared → Prop} (I : Inv X pins σ H s) (e : H a = some (.ins C dx fs)) (c : Cls X.K C) (n : NoAttr X.K C f) (hl : fs.length < 1000) (ry : RelV y u)
    (h : ∀ s', Inv X pins σ (upd H a (.ins C dx (putF f y fs))) s' → Q () s') : wpAny (model X.prog X.w) A (setAttr (.ref a) f u) Q E s := by
  obtain ⟨mA, O, r, wi, _, ho⟩ := ins_get I.hok e
  have hz : (fs.map (·.1)).length ≤ sizeLine := by rw [List.length_map, sizeLine_eq]; omega
  refine set_map I.kIn O c.sa c.po n.taker c.hd wi hz fun h' O' sb => h _ ?_
  have hd : ∃ o, h'.get? dx = some o := let ⟨o, _, _, e', _⟩ := O'.ns; ⟨o, e'⟩
  refine I.write (x := a) (e := dx) (by rw [e]; exact True.intro) (.inr ho) (fun b q hb z => (sb.2 b hb).trans z) hd ?_
  refine ⟨by rw [upd_ne O.ne]; exact ho, ?_, O.ne, O'.obj, _, O'.ns, fun g => ?_, fun g hg => ?_⟩
  · have := length_putF f y fs; omega
  · show RelO ((putF f y fs).lookup g) (if g = f then some u else mA g)
    rw [lookup_putF]
    by_cases q : g = f
    · rw [if_pos q, if_pos q]; exact ry
    · rw [if_neg q, if_neg q]; exact r g
  · by_cases q : g = f
    · rw [q]; exact (keys_putF f y fs).1
    · refine (keys_putF f y fs).2 g (wi g fun z => hg ?_)
      show (if g = f then some u else mA g) = none
      rw [if_neg q]; exact z

/-- a new instance, tracked, without attributes -/
theorem Inv.made (I : Inv X pins σ H s) : Inv X pins σ (upd (upd H s.heap.objs.size (.own (s.heap.objs.size + 1))) (s.heap.objs.size + 1) (.ins C s.heap.objs.size []))
    { s with heap := (s.heap.push PySem.W.emptyDict).push (PySem.W.instObj C s.heap.objs.size) } := by
  have e1 : (s.heap.push PySem.W.emptyDict).get? s.heap.objs.size = some PySem.W.emptyDict := Heap.get?_push_size s.heap rfl
  have e2 : ((s.heap.push PySem.W.emptyDict).push (PySem.W.instObj C s.heap.objs.size)).get? (s.heap.objs.size + 1) = some (PySem.W.instObj C s.heap.objs.size) := by
    have := Heap.get?_push_size (s.heap.push PySem.W.emptyDict) (o := PySem.W.instObj C s.heap.objs.size) rfl
    rwa [Heap.size_push] at this
  have e3 : (s.heap.push PySem.W.emptyDict).Ns s.heap.objs.size (fun _ => none) := ⟨PySem.W.emptyDict, #[], _, e1, rfl, (fun e he => absurd he (by simp)), fun _ => rfl⟩
  have I1 := I.laid (a := s.heap.objs.size) (o := .own (s.heap.objs.size + 1)) (h' := s.heap.push PySem.W.emptyDict) (t' := s.toks) (fun b u q => Heap.get?_push_of_some _ q) (Nat.le_refl _) ⟨_, e1⟩
  refine I1.laid (a := s.heap.objs.size + 1) (o := .ins C s.heap.objs.size []) (t' := s.toks) (fun b u q => Heap.get?_push_of_some _ q) (Nat.le_of_eq (Heap.size_push _ _)) ?_
  have ne : s.heap.objs.size ≠ s.heap.objs.size + 1 := Nat.ne_of_lt (Nat.lt_succ_self _)
  refine ⟨by rw [upd_ne ne, upd_same], Nat.zero_le _, ne, e2, fun _ => none, (Heap.Ns1.of_empty e3).at fun o q => Heap.get?_push_of_some _ q, fun _ => True.intro, fun y hy => absurd rfl hy⟩

/-- e.f where nothing but the object is asked: through attributeBase (super) and the last hold -/
theorem attr_of {prog : Program} {w : World} {env : Env} {e : Expr} {f : Str} {pos : Pos} {s : Shared} {Q : Value → Shared → Prop} (hb : attributeBase e f env (eval e env) = eval e env)
    (h : wpAny (model prog w) A (eval e env) (fun o s₁ => wpAny (model prog w) A (getAttr o f true) Q E s₁) E s) : wpAny (model prog w) A (eval (.Attribute e f pos) env) Q E s :=
  Attribute_any_ h (by rw [arm_eval_Attribute, hb])
end

/-! ### readings and rules -/
/-- e.f, an attribute of the instance -/
def tFld (K : PySem.W.Frag) (ta : TE) (f : Str) : TE := fun σ H Q => ta σ H fun x H1 => ∃ a C dx fs v, x = .ref a ∧ H1 a = some (.ins C dx fs) ∧ Cls K C ∧ NoAttr K C f ∧ fs.lookup f = some v ∧ Q v H1
/-- e.f, a constant of the class -/
def tCon (K : PySem.W.Frag) (ta : TE) (f : Str) : TE := fun σ H Q => ta σ H fun x H1 => ∃ a C dx fs v u, x = .ref a ∧ H1 a = some (.ins C dx fs) ∧ Cls K C ∧ Con K C f v u ∧ fs.lookup f = none ∧ Q v H1
/-- e.f = value -/
def sFld (K : PySem.W.Frag) (ta tv : TE) (f : Str) : TS := fun D σ H => tv σ H fun y H1 => ta σ H1 fun x H2 => ∃ a C dx fs, x = .ref a ∧ H2 a = some (.ins C dx fs) ∧ Cls K C ∧ NoAttr K C f ∧ fs.length < 1000 ∧
  D.nx σ (upd H2 a (.ins C dx (putF f y fs)))
/-- an augmented operator on two values -/
def InOp (X : Cx) (op : Operator) (rd : V → V → Hp → VK → Prop) : Prop :=
  ∀ (pins : List (Addr × Obj)) (s : Shared) (σ : St) (H : Hp) (x y : V) (u v : Value) (Q : VK), Inv X pins σ H s → RelV x u → RelV y v → rd x y H Q → wpAny (model X.prog X.w) X.A (inplaceOp op u v) (EP X pins σ Q) X.xe s
/-- e.f op= value -/
def sFldAug (K : PySem.W.Frag) (ta tv : TE) (rd : V → V → Hp → VK → Prop) (f : Str) : TS := fun D σ H => ta σ H fun x H1 => ∃ a C dx fs v, x = .ref a ∧ H1 a = some (.ins C dx fs) ∧ Cls K C ∧ NoAttr K C f ∧ fs.lookup f = some v ∧
  tv σ H1 fun y H2 => rd v y H2 fun z H3 => ∃ dx' fs', H3 a = some (.ins C dx' fs') ∧ fs'.length < 1000 ∧ D.nx σ (upd H3 a (.ins C dx' (putF f z fs')))

section
variable {X : Cx} {o e value : Expr} {f : Str} {pos pos' tpos : Pos} {ta tv : TE}
theorem pe_fld (he : PE X e ta) (hb : attributeBase e f X.env (eval e X.env) = eval e X.env) : PE X (.Attribute e f pos) (tFld X.K ta f) := by
  intro pins s σ H Q I h
  refine attr_of hb (thn (he pins s σ H _ I h) fun u s1 ⟨x, H1, I1, rx, a, C, dx, fs, v, ex, ea, c, n, l, q⟩ => ?_)
  subst ex
  obtain rfl : u = Value.ref a := rx
  exact getattr_ok I1 ea c n l fun u' s2 I2 ru => ⟨v, H1, I2, ru, q⟩
theorem pe_con (he : PE X e ta) (hb : attributeBase e f X.env (eval e X.env) = eval e X.env) : PE X (.Attribute e f pos) (tCon X.K ta f) := by
  intro pins s σ H Q I h
  refine attr_of hb (thn (he pins s σ H _ I h) fun u s1 ⟨x, H1, I1, rx, a, C, dx, fs, v, u0, ex, ea, c, k, l, q⟩ => ?_)
  subst ex
  obtain rfl : u = Value.ref a := rx
  exact getcon_ok I1 ea c k l fun s2 I2 => ⟨v, H1, I2, k.rel, q⟩
theorem ps_fld (ha : PE X o ta) (hv : PE X value tv) (hs : swapsWith value (some (.Attribute o f pos')) pos.line X.env = pure false) : PS X (.Assign [.Attribute o f pos'] value pos) (sFld X.K ta tv f) := by
  intro pins s σ H D I h
  refine plainObj_wpAny_Assign_Attribute (thn (hv pins s σ H _ I h) fun u s1 ⟨y, H1, I1, ry, q⟩ => thn (ha pins s1 σ H1 _ I1 q) fun ov s2 ⟨x, H2, I2, rx, a, C, dx, fs, ex, ea, c, n, l, q2⟩ => ?_) hs
  subst ex
  obtain rfl : ov = Value.ref a := rx
  exact setattr_ok I2 ea c n l ry fun s3 I3 => ⟨σ, _, I3, q2⟩
theorem ps_fldaug {op : Operator} {rd : V → V → Hp → VK → Prop} (ha : PE X o ta) (hv : PE X value tv) (hop : InOp X op rd) : PS X (.AugAssign (.Attribute o f tpos) op value pos) (sFldAug X.K ta tv rd f) := by
  intro pins s σ H D I h
  refine wpAny_AugAssign_AttributeAny (thn (ha pins s σ H _ I h) fun ov s1 ⟨x, H1, I1, rx, a, C, dx, fs, v, ex, ea, c, n, l, q⟩ => ?_)
  subst ex
  obtain rfl : ov = Value.ref a := rx
  refine getattr_ok I1 ea c n l fun u s2 I2 ru => thn (hv pins s2 σ H1 _ I2 q) fun w3 s3 ⟨y, H2, I3, ry, q3⟩ => thn (hop pins s3 σ H2 v y u w3 _ I3 ru ry q3) fun w4 s4 ⟨z, H3, I4, rz, dx', fs', ea', l', q4⟩ => ?_
  exact setattr_ok I4 ea' c n l' rz fun s5 I5 => ⟨σ, _, I5, q4⟩
def rAdd : V → V → Hp → VK → Prop := fun x y H Q => ∃ i j, x = .int i ∧ y = .int j ∧ Q (.int (i + j)) H
def rSub : V → V → Hp → VK → Prop := fun x y H Q => ∃ i j, x = .int i ∧ y = .int j ∧ Q (.int (i - j)) H
theorem in_add : InOp X .Add rAdd := by
  rintro pins s σ H x y u v Q I rx ry ⟨i, j, rfl, rfl, q⟩
  obtain ⟨t, rfl⟩ := (show ∃ t, u = Value.int i t from rx)
  obtain ⟨t', rfl⟩ := (show ∃ t', v = Value.int j t' from ry)
  exact PyProof.Rows.iadd_int ⟨.int (i + j), H, I.tok _, ⟨_, rfl⟩, q⟩
theorem in_sub : InOp X .Sub rSub := by
  rintro pins s σ H x y u v Q I rx ry ⟨i, j, rfl, rfl, q⟩
  obtain ⟨t, rfl⟩ := (show ∃ t, u = Value.int i t from rx)
  obtain ⟨t', rfl⟩ := (show ∃ t', v = Value.int j t' from ry)
  exact PyProof.Rows.isub_int ⟨.int (i - j), H, I.tok _, ⟨_, rfl⟩, q⟩

/-- what is between an instance and its method: the tree of a method call -/
theorem methcall_of {pl : Sem Bool} {m : Str} {apos : Pos} {args : List Expr} {pins : List (Addr × Obj)} {s : Shared} {σ : St} {H : Hp} {Q : Value → Shared → Prop} {te : TE} (he : PE X e te) (I : Inv X pins σ H s)
    (h : te σ H fun x H1 => ∃ a C dx fs g, x = .ref a ∧ H1 a = some (.ins C dx fs) ∧ Cls X.K C ∧ Meth X.K C m g ∧ fs.lookup m = none ∧
      ∀ s1, Inv X pins σ H1 s1 → wpAny (model X.prog X.w) X.A (callWith pos (.ref g) [.ref a] (backTo pos (starEach args X.env)) (backToKw pos (keywordEach [] X.env))) Q X.xe s1)
    (ht : eval (.Call (.Attribute e m apos) args [] pos) X.env = (do
      let ov ← eval e X.env
      standAt apos.atName
      let (f, first) ← holding [ov] (getMethod ov m pl)
      callWith pos f first (backTo pos (starEach args X.env)) (backToKw pos (keywordEach [] X.env)))) :
    wpAny (model X.prog X.w) X.A (eval (.Call (.Attribute e m apos) args [] pos) X.env) Q X.xe s := by
  refine PySem.W.methodCall_KW (pl := pl) (thn (he pins s σ H _ I h) fun u s1 ⟨x, H1, I1, rx, a, C, dx, fs, g, ex, ea, c, k, l, q⟩ => ?_) ht
  subst ex
  obtain rfl : u = Value.ref a := rx
  exact getmeth_ok I1 ea c k l (q s1 I1)
end

/-! ### isinstance -/
section
variable {X : Cx} {pins : List (Addr × Obj)} {σ : St} {H : Hp} {s : Shared} {A : Around} {E : Value → Shared → Prop} {Q : Value → Shared → Prop} {c : Value} {b : Bool}
/-- the type of a value, as the fragment's deciders take it; for an instance its class -/
inductive TyOf (K : PySem.W.Frag) (H : Hp) : V → Value → Prop where
  | non : TyOf K H .non (.type "NoneType")
  | bl (x : Bool) : TyOf K H (.bl x) (.type "bool")
  | int (i : Int) : TyOf K H (.int i) (.type "int")
  | str (x : Str) : TyOf K H (.str x) (.type "str")
  | flt (x : UInt64) : TyOf K H (.flt x) (.type "float")
  | lst {a : Addr} {xs : List V} (e : H a = some (.lst xs)) : TyOf K H (.ref a) (.type "list")
  | frz {a : Addr} {o : Obj} {xs : List V} (e : H a = some (.frz o (.lst xs))) : TyOf K H (.ref a) (.type "list")
  | tup {a : Addr} {xs : List V} (e : H a = some (.tup xs)) : TyOf K H (.ref a) (.type "tuple")
  | dK {a : Addr} {kvs : List (Key × V)} (e : H a = some (.dK kvs)) : TyOf K H (.ref a) (.type "dict")
  | dT {a : Addr} {kvs : List (List Key × V)} (e : H a = some (.dT kvs)) : TyOf K H (.ref a) (.type "dict")
  | ins {a C dx : Addr} {fs : List (Str × V)} (e : H a = some (.ins C dx fs)) (cl : Cls K C) (ha : PySem.W.findIn K (.ref C) "__class__" = some (some (.builtin "object.__class__")))
      (hn : PySem.W.specialIn K (.builtin "object.__class__") "__get__" = some (some (.builtin "getset_descriptor.__get__"))) (htk : PySem.W.takesIn K (.builtin "object.__class__") = some true)
      (hm : PySem.W.mroIn K C (.type "object") = some true) : TyOf K H (.ref a) (.ref C)
/-- isinstance(x, c) for one class c, a built-in or an own one: kitOne's answer -/
theorem isinst_ok {x : V} {u t : Value} (I : Inv X pins σ H s) (rx : RelV x u) (ty : TyOf X.K H x t) (e : PySem.W.kitOne X.K t c = some b) (h : ∀ tk, Q (.bool b) { s with toks := tk }) :
    wpAny (model X.prog X.w) A (call (.builtin "isinstance") [u, c]) Q E s := by
  cases ty with
  | non => cases (show u = Value.none from rx); exact PySem.W.kia_one PySem.W.kitx_none I.kIn True.intro e (fun z => nomatch z) h
  | bl y => cases (show u = Value.bool y from rx); exact PySem.W.kia_one PySem.W.kitx_bool I.kIn True.intro e (fun z => nomatch z) h
  | int i => obtain ⟨t, q⟩ := (show ∃ t, u = Value.int i t from rx); cases q; exact PySem.W.kia_one PySem.W.kitx_int I.kIn True.intro e (fun z => nomatch z) h
  | str y => obtain ⟨t, q⟩ := (show ∃ t, u = Value.str y t from rx); cases q; exact PySem.W.kia_one PySem.W.kitx_str I.kIn True.intro e (fun z => nomatch z) h
  | flt y => obtain ⟨t, q⟩ := (show ∃ t, u = Value.float y t from rx); cases q; exact PySem.W.kia_one PySem.W.kitx_float I.kIn True.intro e (fun z => nomatch z) h
  | @lst a xs ea =>
    cases (show u = Value.ref a from rx)
    obtain ⟨_, _, n, _, h1⟩ := (show ObjOk X.prog X.w H s.heap a (.lst xs) from I.hok a _ ea)
    exact PySem.W.kia_one PySem.W.kitx_list I.kIn ⟨_, h1, rfl⟩ e (fun z => nomatch z) h
  | @frz a ob xs ea =>
    cases (show u = Value.ref a from rx)
    obtain ⟨_, _, _, n, _, h1⟩ := (show ObjOk X.prog X.w H s.heap a (.frz ob (.lst xs)) from I.hok a _ ea)
    exact PySem.W.kia_one PySem.W.kitx_list I.kIn ⟨_, h1, rfl⟩ e (fun z => nomatch z) h
  | @tup a xs ea =>
    cases (show u = Value.ref a from rx)
    obtain ⟨_, _, _, p⟩ := (show ObjOk X.prog X.w H s.heap a (.tup xs) from I.hok a _ ea)
    obtain ⟨o, h1, h2, _⟩ := p
    exact PySem.W.kia_one PySem.W.kitx_tuple I.kIn ⟨o, h1, h2⟩ e (fun z => nomatch z) h
  | @dK a kvs ea =>
    cases (show u = Value.ref a from rx)
    obtain ⟨_, _, vs, _, p⟩ := (show ObjOk X.prog X.w H s.heap a (.dK kvs) from I.hok a _ ea)
    obtain ⟨o, es, ep, h1, h2, _⟩ := p
    exact PySem.W.kia_one PySem.W.kitx_dict I.kIn ⟨o, h1, h2.1⟩ e (fun z => nomatch z) h
  | @dT a kvs ea =>
    cases (show u = Value.ref a from rx)
    obtain ⟨_, _, xs, _, o, es, ep, h1, h2, _⟩ := (show ObjOk X.prog X.w H s.heap a (.dT kvs) from I.hok a _ ea)
    exact PySem.W.kia_one PySem.W.kitx_dict I.kIn ⟨o, h1, h2.1⟩ e (fun z => nomatch z) h
  | @ins a C dx fs ea cl ha hn htk hm =>
    cases (show u = Value.ref a from rx)
    obtain ⟨mA, O, _⟩ := ins_get I.hok ea
    obtain ⟨od, J, _⟩ := O.look
    exact PySem.W.kia_one (PySem.W.kitx_own (cl.get _) cl.hd ha hn htk hm) I.kIn J e (fun z => nomatch z) h
end
end L2

namespace L2
open PySem PySem.Spec PyProof.Rows

/-! ### room -/
structure Room (k : Nat) (A : Around) : Prop where
  hd : A.handled = none
  dp : A.depth + 3 * k + 5 < recursionLimit
  un : A.units + 16 * k + 200 < cLine
theorem Room.mono {j k : Nat} {A : Around} (r : Room k A) (h : j ≤ k) : Room j A := ⟨r.hd, by have := r.dp; omega, by have := r.un; omega⟩
theorem Room.deeper {k : Nat} {A : Around} (r : Room (k + 1) A) (env : Env) : Room k (A.deeper env) :=
  ⟨r.hd, by have := r.dp; show A.depth + 1 + 3 * k + 5 < _; omega, by have := r.un; show A.units + 3 + 16 * k + 200 < _; omega⟩
theorem Room.in1 {k : Nat} {A : Around} (r : Room (k + 1) A) : Room k A.in1 :=
  ⟨r.hd, by have := r.dp; show A.depth + 3 * k + 5 < _; omega, by have := r.un; show A.units + 1 + 16 * k + 200 < _; omega⟩
theorem make_depth {A : Around} {C : Addr} {us : List Value} {kw : List (Str × Value)} : (A.under (.builtin "type.__call__" ⟨.ref C :: us, kw⟩)).depth = A.depth + 1 := by
  first | rfl | simp [Around.under, Code.weight, Code.isCreation, Code.isGuard, Code.isCaller, Code.frames, Code.isFrame, guardIds]
theorem make_units {A : Around} {C : Addr} {us : List Value} {kw : List (Str × Value)} : (A.under (.builtin "type.__call__" ⟨.ref C :: us, kw⟩)).units = A.units + 1 := by
  first | rfl | simp [Around.under, Code.cUnits, Code.frames, Code.isFrame]
theorem Room.make {k : Nat} {A : Around} (r : Room (k + 1) A) (C : Addr) (us : List Value) (kw : List (Str × Value)) : Room k (A.under (.builtin "type.__call__" ⟨.ref C :: us, kw⟩)) :=
  ⟨r.hd, by have := r.dp; rw [make_depth]; omega, by have := r.un; rw [make_units]; omega⟩
theorem Room.depth {k : Nat} {A : Around} (r : Room k A) : A.depth < recursionLimit := by have := r.dp; omega
theorem Room.units {k : Nat} {A : Around} (r : Room k A) : A.units + 64 < cLine := by have := r.un; omega
theorem Room.units0 {k : Nat} {A : Around} (r : Room k A) : A.units < cLine := by have := r.un; omega

/-! ### argument lists and displays -/
def tNil : TA := fun _ H Q => Q [] H
def tCons (ta : TE) (tr : TA) : TA := fun σ H Q => ta σ H fun x H1 => tr σ H1 fun xs H2 => Q (x :: xs) H2
section
variable {X : Cx} {e : Expr} {es : List Expr} {te : TE} {t : TA} {pos : Pos}
theorem pa_nil : PA X [] tNil := fun _ _ _ _ H Q I h => Calls.spliced_nil ⟨[], H, I, .nil, h⟩
theorem pa_cons (ha : PE X e te) (hr : PA X es t) (hs : starEach (e :: es) X.env = (false, eval e X.env) :: starEach es X.env := by rfl) : PA X (e :: es) (tCons te t) := by
  intro pos pins s σ H Q I h
  rw [hs]
  show wpAny _ _ (spliced ((false, eval e X.env) :: backTo pos (starEach es X.env))) _ _ s
  refine Calls.spliced_cons (thn (ha pins s σ H _ I h) fun u s1 ⟨x, H1, I1, r1, q1⟩ => ?_)
  exact thn (hr pos pins s1 σ H1 _ I1 q1) fun us s2 ⟨xs, H2, I2, r2, q2⟩ => ⟨x :: xs, H2, I2, .cons r1 r2, q2⟩

/-- a tuple, a list of written items -/
def tTup (t : TA) : TE := fun σ H Q => t σ H fun xs H1 => xs.length ≤ sizeLine ∧ ∀ p, H1 p = none → Q (.ref p) (upd H1 p (.tup xs))
def tLst (t : TA) : TE := fun σ H Q => t σ H fun xs H1 => xs.length ≤ sizeLine ∧ ∀ p, H1 p = none → Q (.ref p) (upd H1 p (.lst xs))
theorem pe_tup {x1} (h : PA X es t) : PE X (.Tuple es x1 pos) (tTup t) := by
  intro pins s σ H Q I hq
  refine wpAny_Tuple_spliced (thn (h pos pins s σ H _ I hq) fun us s1 ⟨xs, H1, I1, r, z, q⟩ => ⟨by rw [← r.length]; exact z, ?_⟩)
  have hf : H1 s1.heap.objs.size = none := I1.hok.fresh (Nat.le_refl _)
  refine ⟨.ref s1.heap.objs.size, upd H1 s1.heap.objs.size (.tup xs), I1.laid (t' := s1.toks) (fun b u e => Heap.get?_push_of_some _ e) (Nat.le_refl _) ?_, rfl, q _ hf⟩
  exact ⟨z, us, r, ⟨_, Heap.get?_push_size _ rfl, rfl, _, rfl⟩⟩
theorem pe_lst (h : PA X es t) : PE X (.List es pos) (tLst t) := by
  intro pins s σ H Q I hq
  refine wpAny_List_spliced (thn (h pos pins s σ H _ I hq) fun us s1 ⟨xs, H1, I1, r, z, q⟩ => ⟨by rw [← r.length]; exact z, ?_⟩)
  have hf : H1 s1.heap.objs.size = none := I1.hok.fresh (Nat.le_refl _)
  refine ⟨.ref s1.heap.objs.size, upd H1 s1.heap.objs.size (.lst xs), I1.laid (t' := s1.toks) (fun b u e => Heap.get?_push_of_some _ e) (Nat.le_refl _) ?_, rfl, q _ hf⟩
  exact ⟨z, us, 0, r, Heap.get?_push_size _ rfl⟩
end

/-! ### what a def promises -/
/-- a def's promise: the bound arguments in the parameters' order, the heap, the wanted end, the wanted exception -/
abbrev Sp := List V → Hp → VK → XK → Prop
/-- how an exception lies behind a call (file 08 gives it): the callers' frames, abstract heap and state ahead of the call, the wish, the exception, the state -/
abbrev CXT := List Env → Hp → Shared → XK → Value → Shared → Prop

/-- the state at a call -/
structure Env0 (P : Program) (w : World) (K : PySem.W.Frag) (mg : Str → Option Value) (base : Heap) (A : Around) (outer : List Env) (s : Shared) (H : Hp) : Prop where
  frames : A.frames = some outer
  mod : Mod K mg base
  bs : ∀ b o, base.get? b = some o → s.heap.get? b = some o ∧ H b = none
  bsz : base.objs.size ≤ s.heap.objs.size
  funs : s.heap.FunFrames base outer
  frf : ∀ b ∈ frs outer, H b = none
  hok : HOk P w H s.heap
  bare : AllBare s.gens
/-- a call's end -/
def CE (outer : List Env) (P : Program) (w : World) (H : Hp) (s : Shared) (Q : VK) (u : Value) (s' : Shared) : Prop :=
  ∃ v H', s'.os = s.os ∧ AllBare s'.gens ∧ Un (frs outer) [] H H' s.heap s'.heap ∧ HOk P w H' s'.heap ∧ RelV v u ∧ Q v H'
def CR (CX : CXT) (outer : List Env) (P : Program) (w : World) (H : Hp) (s : Shared) (Q : VK) (E : XK) (r : Result) (s' : Shared) : Prop :=
  match r with
  | .ok (.ret u) => CE outer P w H s Q u s'
  | .ok _ => False
  | .error e => CX outer H s E e s'
structure FnOk (P : Program) (w : World) (K : PySem.W.Frag) (mg : Str → Option Value) (base : Heap) (CX : CXT) (k : Nat) (f : Addr) (fd : FuncData) (ps : List Str) (sp : Sp) : Prop where
  len : ∀ vs H Q E, sp vs H Q E → vs.length = ps.length
  run : ∀ (A : Around) (outer : List Env) (s : Shared) (H : Hp) (args : Args) (us : List Value) (vs : List V) (Q : VK) (E : XK), Room k A → Env0 P w K mg base A outer s H → BindsTo s fd args (ps.zip us) → Vals vs us → sp vs H Q E →
    codeAny (model P w) A (.call (.ref f) args) (CR CX outer P w H s Q E) s
theorem FnOk.mono {P : Program} {w : World} {K : PySem.W.Frag} {mg : Str → Option Value} {base : Heap} {CX : CXT} {j k : Nat} {f : Addr} {fd : FuncData} {ps : List Str} {sp : Sp} (F : FnOk P w K mg base CX j f fd ps sp) (h : j ≤ k) :
    FnOk P w K mg base CX k f fd ps sp := ⟨F.len, fun A outer s H args us vs Q E hr => F.run A outer s H args us vs Q E (hr.mono h)⟩
/-- a weaker promise -/
theorem FnOk.imp {P : Program} {w : World} {K : PySem.W.Frag} {mg : Str → Option Value} {base : Heap} {CX : CXT} {k : Nat} {f : Addr} {fd : FuncData} {ps : List Str} {sp sp' : Sp} (F : FnOk P w K mg base CX k f fd ps sp)
    (h : ∀ vs H Q E, sp' vs H Q E → sp vs H Q E) : FnOk P w K mg base CX k f fd ps sp' :=
  ⟨fun vs H Q E q => F.len vs H Q E (h _ _ _ _ q), fun A outer s H args us vs Q E hr he hb hv hs => F.run A outer s H args us vs Q E hr he hb hv (h _ _ _ _ hs)⟩

theorem Env0.make {P : Program} {w : World} {K : PySem.W.Frag} {mg : Str → Option Value} {base : Heap} {A : Around} {outer : List Env} {s : Shared} {H : Hp} (e : Env0 P w K mg base A outer s H) (C : Addr) (us : List Value) (kw : List (Str × Value)) :
    Env0 P w K mg base (A.under (.builtin "type.__call__" ⟨.ref C :: us, kw⟩)) outer s H := ⟨by first | exact e.frames | (simpa [Around.under, Code.envs, Code.isFrame, pushEnvs] using e.frames), e.mod, e.bs, e.bsz, e.funs, e.frf, e.hok, e.bare⟩
theorem Env0.in1 {P : Program} {w : World} {K : PySem.W.Frag} {mg : Str → Option Value} {base : Heap} {A : Around} {outer : List Env} {s : Shared} {H : Hp} (e : Env0 P w K mg base A outer s H) :
    Env0 P w K mg base A.in1 outer s H := ⟨e.frames, e.mod, e.bs, e.bsz, e.funs, e.frf, e.hok, e.bare⟩

section
variable {X : Cx} {pins : List (Addr × Obj)} {σ : St} {H : Hp} {s s' : Shared}
/-- from a body: what a callee wants -/
theorem Inv.env0 (I : Inv X pins σ H s) : Env0 X.prog X.w X.K X.mg X.base X.A X.stack s H :=
  ⟨I.ok.frames, I.ok.mod, I.bs, Nat.le_trans I.ok.bsz I.sz, I.stack, I.stkFree, I.hok, I.bare⟩
/-- behind a call -/
theorem Inv.after {Q : VK} {u : Value} (I : Inv X pins σ H s) (h : CE X.stack X.prog X.w H s Q u s') : EP X pins σ Q u s' := by
  obtain ⟨v, H', os, bare, un, hok, r, q⟩ := h
  obtain ⟨hh, g, d, t, os'⟩ := s'
  obtain rfl : os' = s.os := os
  exact ⟨v, H', I.call (h' := hh) (g' := g) (d' := d) (t' := t) (ch := []) un hok bare (fun b z => absurd z (by simp)), r, q⟩
end

/-! ### calls -/
/-- f(..): the written arguments, then the defaults dvs; E: what is wanted of an exception -/
def tCall (sp : Sp) (dvs : List V) (E : XK) (t : TA) : TE := fun σ H Q => t σ H fun vs H1 => sp (vs ++ dvs) H1 Q E
/-- o.m(..) of an instance of the class at C -/
def tMeth (C : Addr) (m : Str) (sp : Sp) (dvs : List V) (E : XK) (ta : TE) (t : TA) : TE := fun σ H Q => ta σ H fun x H1 => ∃ a dx fs, x = .ref a ∧ H1 a = some (.ins C dx fs) ∧ fs.lookup m = none ∧
  t σ H1 fun vs H2 => sp (x :: (vs ++ dvs)) H2 Q E
/-- C(..): a new instance and its dict, then __init__ -/
def tMake (C : Addr) (sp : Sp) (dvs : List V) (E : XK) (t : TA) : TE := fun σ H Q => t σ H fun vs H1 => ∀ x dx, H1 x = none → H1 dx = none → dx ≠ x →
  sp (.ref x :: (vs ++ dvs)) (upd (upd H1 dx (.own x)) x (.ins C dx [])) (fun v H2 => v = .non ∧ Q (.ref x) H2) E

/-- how the parameters are bound: us the positional arguments, kw the keywords' values by name, ds the defaults that fill up -/
def Binds (K : PySem.W.Frag) (fd : FuncData) (ps : List Str) (ds : List Value) : Prop :=
  ∀ (s : Shared) (us : List Value), K.In s.heap → (us ++ ds).length = ps.length → BindsTo s fd ⟨us, []⟩ (ps.zip (us ++ ds))
/-- every parameter is given -/
theorem Binds.all {K : PySem.W.Frag} {fd : FuncData} {ps : List Str} (h : ∀ us : List Value, us.length = ps.length → bindArgs fd ⟨us, []⟩ = pure (ps.zip us)) : Binds K fd ps [] := fun s us _ hl => by
  rw [List.append_nil] at hl ⊢
  exact .of_eq (h us hl)

/-- an exception of a callee reaches what this body wants of exceptions -/
def Passes (CX : CXT) (X : Cx) (E : XK) : Prop := ∀ (pins : List (Addr × Obj)) (σ : St) (H : Hp) (s : Shared) (e : Value) (s' : Shared), Inv X pins σ H s → CX X.stack H s E e s' → X.xe e s'

section
variable {X : Cx} {CX : CXT} {k : Nat} {f C : Addr} {fd : FuncData} {ps : List Str} {sp : Sp} {dvs : List V} {ds : List Value} {E : XK} {x m : Str} {p pos apos : Pos} {e o : Expr} {es : List Expr} {ta : TE} {t : TA}

/-- the callee runs -/
theorem run_fn {pins : List (Addr × Obj)} {σ : St} {H : Hp} {s : Shared} {Q : VK} {us : List Value} {vs : List V} (F : FnOk X.prog X.w X.K X.mg X.base CX k f fd ps sp) (hr : Room k X.A) (hb : Binds X.K fd ps ds) (hd : Vals dvs ds) (hx : Passes CX X E)
    (I : Inv X pins σ H s) (r : Vals vs us) (h : sp (vs ++ dvs) H Q E) : wpAny (model X.prog X.w) X.A (call (.ref f) us) (EP X pins σ Q) X.xe s := by
  have r2 : Vals (vs ++ dvs) (us ++ ds) := r.append hd
  have hl : (us ++ ds).length = ps.length := by rw [← r2.length]; exact F.len _ _ _ _ h
  refine wpAny_call (codeAny_mono (F.run X.A X.stack s H ⟨us, []⟩ (us ++ ds) (vs ++ dvs) Q E hr I.env0 (hb s us I.kIn hl) r2 h) fun r s' hq => ?_)
  cases r with
  | error e => exact hx pins σ H s e s' I hq
  | ok fl =>
    cases fl with
    | ret u => exact I.after hq
    | next => exact False.elim hq
    | brk => exact False.elim hq
    | cont => exact False.elim hq

theorem pe_call (F : FnOk X.prog X.w X.K X.mg X.base CX k f fd ps sp) (hr : Room k X.A) (hg : Gl X x) (hm : X.mg x = some (.ref f)) (hk : PySem.W.keepIn X.K (.ref f) = true) (hb : Binds X.K fd ps ds) (hd : Vals dvs ds) (hx : Passes CX X E)
    (ha : PA X (e :: es) t) (hdb : (x == ("__debug__" : Str)) = false := by decide) (he : starEach (e :: es) X.env = (false, eval e X.env) :: starEach es X.env := by rfl) (hpl : (backTo pos (starEach es X.env)).any (·.1) = false := by rfl) :
    PE X (.Call (.Name x p) (e :: es) [] pos) (tCall sp dvs E t) := by
  intro pins s σ H Q I h
  refine wpAny_Call_Name_kw (ld_glob I hg hm ?_ hdb)
  refine PySem.W.callWith_K (h₀ := X.base) I.ok.mod.kin hk (thn (ha pos pins s σ H _ I h) fun us s1 ⟨vs, H1, I1, r, q⟩ => ⟨I1.kIn, ?_⟩) he hpl
  exact run_fn F hr hb hd hx I1 r q
theorem pe_call0 (F : FnOk X.prog X.w X.K X.mg X.base CX k f fd ps sp) (hr : Room k X.A) (hg : Gl X x) (hm : X.mg x = some (.ref f)) (hk : PySem.W.keepIn X.K (.ref f) = true) (hb : Binds X.K fd ps ds) (hd : Vals dvs ds) (hx : Passes CX X E)
    (hdb : (x == ("__debug__" : Str)) = false := by decide) : PE X (.Call (.Name x p) [] [] pos) (tCall sp dvs E tNil) := by
  intro pins s σ H Q I h
  refine wpAny_Call_Name_kw (ld_glob I hg hm ?_ hdb)
  exact PySem.W.callWith_K0 I.kIn hk (run_fn (us := []) F hr hb hd hx I .nil h)

/-- o.m(e, ..) -/
theorem pe_meth {pl : Sem Bool} (he : PE X o ta) (c : Cls X.K C) (hm : Meth X.K C m f) (F : FnOk X.prog X.w X.K X.mg X.base CX k f fd ps sp) (hr : Room k X.A) (hb : Binds X.K fd ps ds) (hd : Vals dvs ds) (hx : Passes CX X E) (ha : PA X (e :: es) t)
    (hst : starEach (e :: es) X.env = (false, eval e X.env) :: starEach es X.env := by rfl) (hpl : (backTo pos (starEach es X.env)).any (·.1) = false := by rfl)
    (ht : eval (.Call (.Attribute o m apos) (e :: es) [] pos) X.env = (do
      let ov ← eval o X.env
      standAt apos.atName
      let (f, first) ← holding [ov] (getMethod ov m pl)
      callWith pos f first (backTo pos (starEach (e :: es) X.env)) (backToKw pos (keywordEach [] X.env))) := by rfl) :
    PE X (.Call (.Attribute o m apos) (e :: es) [] pos) (tMeth C m sp dvs E ta t) := by
  intro pins s σ H Q I h
  refine PySem.W.methodCall_KW (pl := pl) (thn (he pins s σ H _ I h) fun u s1 ⟨x, H1, I1, rx, a, dx, fs, ex, ea, l, q⟩ => ?_) ht
  subst ex
  obtain rfl : u = Value.ref a := rx
  refine getmeth_ok I1 ea c hm l ?_
  refine PySem.W.callWith_K (first := [.ref a]) (h₀ := X.base) I.ok.mod.kin hm.kp (thn (ha pos pins s1 σ H1 _ I1 q) fun us s2 ⟨vs, H2, I2, r, q2⟩ => ⟨I2.kIn, ?_⟩) hst hpl
  exact run_fn (us := .ref a :: us) (vs := .ref a :: vs) F hr hb hd hx I2 (.cons rfl r) q2
/-- o.m() -/
theorem pe_meth0 {pl : Sem Bool} (he : PE X o ta) (c : Cls X.K C) (hm : Meth X.K C m f) (F : FnOk X.prog X.w X.K X.mg X.base CX k f fd ps sp) (hr : Room k X.A) (hb : Binds X.K fd ps ds) (hd : Vals dvs ds) (hx : Passes CX X E)
    (ht : eval (.Call (.Attribute o m apos) [] [] pos) X.env = (do
      let ov ← eval o X.env
      standAt apos.atName
      let (f, first) ← holding [ov] (getMethod ov m pl)
      callWith pos f first (backTo pos (starEach [] X.env)) (backToKw pos (keywordEach [] X.env))) := by rfl) :
    PE X (.Call (.Attribute o m apos) [] [] pos) (tMeth C m sp dvs E ta tNil) := by
  intro pins s σ H Q I h
  refine PySem.W.methodCall_KW (pl := pl) (thn (he pins s σ H _ I h) fun u s1 ⟨x, H1, I1, rx, a, dx, fs, ex, ea, l, q⟩ => ?_) ht
  subst ex
  obtain rfl : u = Value.ref a := rx
  refine getmeth_ok I1 ea c hm l ?_
  exact PySem.W.callWith_K0 (first := [.ref a]) I1.kIn hm.kp (run_fn (us := [.ref a]) (vs := [.ref a]) F hr hb hd hx I1 (.cons rfl .nil) q)

/-- what a class must have to be made -/
structure Mk (K : PySem.W.Frag) (C f : Addr) : Prop where
  makes : PySem.W.makesIn K C = true
  init : PySem.W.findIn K (.ref C) "__init__" = some (some (.ref f))
  fn : PySem.W.isFn K (.ref f) = true
  kp : PySem.W.keepIn K (.ref C) = true

theorem run_make {pins : List (Addr × Obj)} {σ : St} {H : Hp} {s : Shared} {Q : VK} {us : List Value} {vs : List V} (M : Mk X.K C f) (F : FnOk X.prog X.w X.K X.mg X.base CX k f fd ps sp) (hr : Room (k + 1) X.A) (hb : Binds X.K fd ps ds) (hd : Vals dvs ds)
    (hx : Passes CX X E) (I : Inv X pins σ H s) (r : Vals vs us)
    (h : ∀ x dx, H x = none → H dx = none → dx ≠ x → sp (.ref x :: (vs ++ dvs)) (upd (upd H dx (.own x)) x (.ins C dx [])) (fun v H2 => v = .non ∧ Q (.ref x) H2) E) :
    wpAny (model X.prog X.w) X.A (call (.ref C) us) (EP X pins σ Q) X.xe s := by
  have hq := h (s.heap.objs.size + 1) s.heap.objs.size (I.hok.fresh (Nat.le_succ _)) (I.hok.fresh (Nat.le_refl _)) (Nat.ne_of_lt (Nat.lt_succ_self _))
  have I2 := Inv.made (C := C) I
  have r2 : Vals (V.ref (s.heap.objs.size + 1) :: (vs ++ dvs)) (Value.ref (s.heap.objs.size + 1) :: (us ++ ds)) := .cons rfl (r.append hd)
  have hl : (Value.ref (s.heap.objs.size + 1) :: us ++ ds).length = ps.length := by
    have e := r2.length
    rw [F.len _ _ _ _ hq] at e
    exact e.symm
  refine wpAny_call (make_map (f := f) I.kIn M.makes M.init (beq_iff_eq.mp M.fn) (codeAny_mono (F.run _ X.stack _ _ ⟨Value.ref (s.heap.objs.size + 1) :: us, []⟩ (Value.ref (s.heap.objs.size + 1) :: (us ++ ds)) _ _ E (hr.make C us [])
    (I2.env0.make C us []) (hb _ (Value.ref (s.heap.objs.size + 1) :: us) I2.kIn hl) r2 hq) fun r s' hq' => ?_))
  cases r with
  | error e => exact hx pins σ _ _ e s' I2 hq'
  | ok fl =>
    cases fl with
    | ret u =>
      obtain ⟨v, H', I3, rv, ev, q3⟩ := I2.after hq'
      subst ev
      exact ⟨rv, ⟨V.ref (s.heap.objs.size + 1), H', I3, rfl, q3⟩⟩
    | next => exact False.elim hq'
    | brk => exact False.elim hq'
    | cont => exact False.elim hq'
theorem pe_make (M : Mk X.K C f) (F : FnOk X.prog X.w X.K X.mg X.base CX k f fd ps sp) (hr : Room (k + 1) X.A) (hg : Gl X x) (hm : X.mg x = some (.ref C)) (hb : Binds X.K fd ps ds) (hd : Vals dvs ds) (hx : Passes CX X E)
    (ha : PA X (e :: es) t) (hdb : (x == ("__debug__" : Str)) = false := by decide) (he : starEach (e :: es) X.env = (false, eval e X.env) :: starEach es X.env := by rfl) (hpl : (backTo pos (starEach es X.env)).any (·.1) = false := by rfl) :
    PE X (.Call (.Name x p) (e :: es) [] pos) (tMake C sp dvs E t) := by
  intro pins s σ H Q I h
  refine wpAny_Call_Name_kw (ld_glob I hg hm ?_ hdb)
  refine PySem.W.callWith_K (h₀ := X.base) I.ok.mod.kin M.kp (thn (ha pos pins s σ H _ I h) fun us s1 ⟨vs, H1, I1, r, q⟩ => ⟨I1.kIn, ?_⟩) he hpl
  exact run_make M F hr hb hd hx I1 r q
theorem pe_make0 (M : Mk X.K C f) (F : FnOk X.prog X.w X.K X.mg X.base CX k f fd ps sp) (hr : Room (k + 1) X.A) (hg : Gl X x) (hm : X.mg x = some (.ref C)) (hb : Binds X.K fd ps ds) (hd : Vals dvs ds) (hx : Passes CX X E)
    (hdb : (x == ("__debug__" : Str)) = false := by decide) : PE X (.Call (.Name x p) [] [] pos) (tMake C sp dvs E tNil) := by
  intro pins s σ H Q I h
  refine wpAny_Call_Name_kw (ld_glob I hg hm ?_ hdb)
  exact PySem.W.callWith_K0 I.kIn M.kp (run_make (us := []) M F hr hb hd hx I .nil h)
end

/-! ### keywords -/
/-- the values of the keywords, from the left -/
def PK (X : Cx) (kws : List Keyword) (t : TA) : Prop :=
  ∀ (pos : Pos) (pins : List (Addr × Obj)) (s : Shared) (σ : St) (H : Hp) (Q : List V → Hp → Prop), Inv X pins σ H s → t σ H Q → wpAny (model X.prog X.w) X.A (evalAll ((backToKw pos (keywordEach kws X.env)).map (·.2))) (AP X pins σ Q) X.xe s
section
variable {X : Cx} {CX : CXT} {k : Nat} {f C : Addr} {fd : FuncData} {ps ks : List Str} {sp : Sp} {E : XK} {x m : Str} {p pos apos kpos : Pos} {e o : Expr} {es : List Expr} {kws : List Keyword} {te ta : TE} {t tk : TA} {nm : Option Str}
theorem pk_nil : PK X [] tNil := fun _ _ _ _ H Q I h => wpAny_evalAll_nil ⟨[], H, I, .nil, h⟩
theorem pk_cons (ha : PE X e te) (hr : PK X kws t) : PK X (⟨nm, e, kpos⟩ :: kws) (tCons te t) := by
  intro pos pins s σ H Q I h
  show wpAny _ _ (evalAll ((do let v ← eval e X.env; standAt pos; pure v) :: (backToKw pos (keywordEach kws X.env)).map (·.2))) _ _ s
  refine wpAny_evalAll_cons (wpAny_bind (thn (ha pins s σ H _ I h) fun u s1 ⟨x, H1, I1, r1, q1⟩ => wpAny_bind (wpAny_standAt (wpAny_pure ?_))))
  exact thn (hr pos pins s1 σ H1 _ I1 q1) fun us s2 ⟨xs, H2, I2, r2, q2⟩ => ⟨x :: xs, H2, I2, .cons r1 r2, q2⟩

/-- how a call with keywords binds: g puts the positional values us and the keywords' values ws (names ks) in the parameters' order, defaults among them -/
structure KBinds (K : PySem.W.Frag) (fd : FuncData) (ps ks : List Str) (g : List Value → List Value → List Value) (gV : List V → List V → List V) : Prop where
  to : ∀ (s : Shared) (us ws : List Value), K.In s.heap → (g us ws).length = ps.length → BindsTo s fd ⟨us, ks.zip ws⟩ (ps.zip (g us ws))
  rel : ∀ {vs : List V} {us : List Value} {zs : List V} {ws : List Value}, Vals vs us → Vals zs ws → Vals (gV vs zs) (g us ws)
def tCallK (sp : Sp) (gV : List V → List V → List V) (E : XK) (t tk : TA) : TE := fun σ H Q => t σ H fun vs H1 => tk σ H1 fun zs H2 => sp (gV vs zs) H2 Q E
variable {g : List Value → List Value → List Value} {gV : List V → List V → List V}
theorem run_fnk {pins : List (Addr × Obj)} {σ : St} {H : Hp} {s : Shared} {Q : VK} {us ws : List Value} {vs zs : List V} (F : FnOk X.prog X.w X.K X.mg X.base CX k f fd ps sp) (hr : Room k X.A) (hb : KBinds X.K fd ps ks g gV) (hx : Passes CX X E)
    (I : Inv X pins σ H s) (r : Vals vs us) (rz : Vals zs ws) (h : sp (gV vs zs) H Q E) : wpAny (model X.prog X.w) X.A (call (.ref f) us (ks.zip ws)) (EP X pins σ Q) X.xe s := by
  have r2 := hb.rel r rz
  have hl : (g us ws).length = ps.length := by rw [← r2.length]; exact F.len _ _ _ _ h
  refine wpAny_call (codeAny_mono (F.run X.A X.stack s H ⟨us, ks.zip ws⟩ (g us ws) (gV vs zs) Q E hr I.env0 (hb.to s us ws I.kIn hl) r2 h) fun r s' hq => ?_)
  cases r with
  | error e => exact hx pins σ H s e s' I hq
  | ok fl =>
    cases fl with
    | ret u => exact I.after hq
    | next => exact False.elim hq
    | brk => exact False.elim hq
    | cont => exact False.elim hq
/-- f(e, .., k = v, ..) -/
theorem pe_callK (F : FnOk X.prog X.w X.K X.mg X.base CX k f fd ps sp) (hr : Room k X.A) (hg : Gl X x) (hm : X.mg x = some (.ref f)) (hk : PySem.W.keepIn X.K (.ref f) = true) (hb : KBinds X.K fd ps ks g gV) (hx : Passes CX X E)
    (ha : PA X (e :: es) t) (hkw : PK X kws tk) (hall : (backToKw pos (keywordEach kws X.env)).all (·.1.isSome) = true := by rfl) (hks : (backToKw pos (keywordEach kws X.env)).filterMap (·.1) = ks := by rfl)
    (hdb : (x == ("__debug__" : Str)) = false := by decide) (he : starEach (e :: es) X.env = (false, eval e X.env) :: starEach es X.env := by rfl)
    (hpl : ((backTo pos (starEach (e :: es) X.env)).any (·.1) || (backToKw pos (keywordEach kws X.env)).any (·.1.isNone)) = false := by rfl) :
    PE X (.Call (.Name x p) (e :: es) kws pos) (tCallK sp gV E t tk) := by
  intro pins s σ H Q I h
  refine wpAny_Call_Name_kw (ld_glob I hg hm ?_ hdb)
  refine PySem.W.callWith_KW (h₀ := X.base) I.ok.mod.kin hk hall (thn (ha pos pins s σ H _ I h) fun us s1 ⟨vs, H1, I1, r, q⟩ => ?_) hpl he
  refine thn (hkw pos pins s1 σ H1 _ I1 q) fun ws s2 ⟨zs, H2, I2, rz, q2⟩ => ⟨I2.kIn, ?_⟩
  rw [hks]
  exact run_fnk F hr hb hx I2 r rz q2
end

/-! ### a def's body keeps its promise -/
/-- names: the parameters first -/
structure FnScope (N P : List Str) (sc : Scope) : Prop where
  kind : sc.kind = .function
  co : sc.isCoroutine = false
  gen : sc.isGenerator = false
  nd : N.Nodup
  pre : N.take P.length = P
  par : ∀ x ∈ P, sc.names.lookup x = some .local ∨ sc.names.lookup x = some .cell
  nofree : ∀ y ∈ sc.names, y.2 ≠ .free

theorem bindL_out {kindOf : Str → Option NameKind} {x : Str} : ∀ {binds : List (Str × Value)} {m : Str → Option Value}, (∀ v, (x, v) ∉ binds) → bindL kindOf binds m x = m x
  | [], _, _ => rfl
  | (n, v) :: r, m, h => by
    unfold bindL
    rw [bindL_out fun w hw => h w (List.mem_cons_of_mem _ hw)]
    split
    · have : x ≠ n := by rintro rfl; exact h v List.mem_cons_self
      simp [this]
    · rfl
theorem bindC_out {kindOf : Str → Option NameKind} {x : Str} : ∀ {binds : List (Str × Value)} {m : Str → Option Value}, (∀ v, (x, v) ∉ binds) → bindC kindOf binds m x = m x
  | [], _, _ => rfl
  | (n, v) :: r, m, h => by
    unfold bindC
    rw [bindC_out fun w hw => h w (List.mem_cons_of_mem _ hw)]
    split
    · rfl
    · have : x ≠ n := by rintro rfl; exact h v List.mem_cons_self
      simp [this]
theorem bindL_get {kindOf : Str → Option NameKind} {x : Str} {v : Value} : ∀ {P : List Str} {vs : List Value} {i : Nat} {m : Str → Option Value}, P.Nodup → P[i]? = some x → vs[i]? = some v → kindOf x = some .local →
    bindL kindOf (P.zip vs) m x = some v
  | [], _, _, _, _, h, _, _ => by simp at h
  | _ :: _, [], _, _, _, _, h, _ => by simp at h
  | p :: P, w :: vs, 0, m, nd, h1, h2, hk => by
    simp at h1 h2; subst h1; subst h2
    show bindL kindOf ((p, w) :: P.zip vs) m p = _
    unfold bindL
    rw [bindL_out fun v hv => (List.nodup_cons.mp nd).1 (List.of_mem_zip hv).1, if_pos hk]
    simp
  | p :: P, w :: vs, i + 1, m, nd, h1, h2, hk => by
    show bindL kindOf ((p, w) :: P.zip vs) m x = _
    unfold bindL
    exact bindL_get (i := i) (List.nodup_cons.mp nd).2 (by simpa using h1) (by simpa using h2) hk
theorem bindC_get {kindOf : Str → Option NameKind} {x : Str} {v : Value} : ∀ {P : List Str} {vs : List Value} {i : Nat} {m : Str → Option Value}, P.Nodup → P[i]? = some x → vs[i]? = some v → kindOf x ≠ some .local →
    bindC kindOf (P.zip vs) m x = some v
  | [], _, _, _, _, h, _, _ => by simp at h
  | _ :: _, [], _, _, _, _, h, _ => by simp at h
  | p :: P, w :: vs, 0, m, nd, h1, h2, hk => by
    simp at h1 h2; subst h1; subst h2
    show bindC kindOf ((p, w) :: P.zip vs) m p = _
    unfold bindC
    rw [bindC_out fun v hv => (List.nodup_cons.mp nd).1 (List.of_mem_zip hv).1, if_neg hk]
    simp
  | p :: P, w :: vs, i + 1, m, nd, h1, h2, hk => by
    show bindC kindOf ((p, w) :: P.zip vs) m x = _
    unfold bindC
    exact bindC_get (i := i) (List.nodup_cons.mp nd).2 (by simpa using h1) (by simpa using h2) hk

/-- the names' values at the entry -/
def start (N : List Str) (vs : List V) : St := vs.map some ++ List.replicate (N.length - vs.length) none

/-- the context of a def's body, at its entry; an exception leaves the frame, then lies as CX says -/
def cxOf (CX : CXT) (P : Program) (w : World) (K : PySem.W.Frag) (mg : Str → Option Value) (base : Heap) (N : List Str) (qual : Str) (scope : Scope) (f : Addr) (cd : Value) (A : Around) (outer : List Env) (s : Shared) (H : Hp) (E : XK) : Cx where
  prog := P
  w := w
  K := K
  mg := mg
  base := base
  A := A.deeper (envOfC qual scope s.heap.objs.size f cd)
  N := N
  s₀ := s
  H₀ := H
  env := envOfC qual scope s.heap.objs.size f cd
  outer := outer
  stack := envOfC qual scope s.heap.objs.size f cd :: outer
  ex := []
  calm := true
  fn := fun _ => true
  pn := []
  xe := fun e s' => wpAny (model P w) (A.deeper (envOfC qual scope s.heap.objs.size f cd)) (leaving (envOfC qual scope s.heap.objs.size f cd) e) (fun _ s'' => CX outer H s E e s'') (fun e' s'' => CX outer H s E e' s'') s'

theorem cell_has {sc : Scope} {n : Nat} {x : Str} (h : sc.names.lookup x = some .cell) : ∃ c, (cellsFrom n sc.names []).lookup x = some c := by
  have q := PySem.W.cellsFrom_some sc.names n [] (.inl h)
  exact Option.isSome_iff_exists.mp q

theorem inv_start {CX : CXT} {P : Program} {w : World} {K : PySem.W.Frag} {mg : Str → Option Value} {base : Heap} {N ps : List Str} {qual : Str} {scope : Scope} {f : Addr} {cd : Value} {A : Around} {outer : List Env} {s s1 : Shared} {H : Hp} {E : XK} {us : List Value} {vs : List V}
    (S : FnScope N ps scope) (hd : A.handled = none) (e0 : Env0 P w K mg base A outer s H) (hl : vs.length = ps.length) (r : Vals vs us)
    (x : InCallC s s.heap.objs.size (bindL (envOfC qual scope s.heap.objs.size f cd).kindOf (ps.zip us) fun _ => none) (cellsFrom (s.heap.objs.size + 1) scope.names []) (bindC (envOfC qual scope s.heap.objs.size f cd).kindOf (ps.zip us) fun _ => none) s1) :
    Inv (cxOf CX P w K mg base N qual scope f cd A outer s H E) [] (start N vs) H s1 := by
  have hpl : ps.length ≤ N.length := by have := congrArg List.length S.pre; rw [List.length_take] at this; omega
  obtain ⟨h1, tk, rfl, hk⟩ := x.done
  have noA : ∀ b : Addr, b ∉ (cxOf CX P w K mg base N qual scope f cd A outer s H E).ex := fun b z => absurd (show b ∈ ([] : List Addr) from z) (by simp)
  refine ⟨⟨e0.mod, S.kind, rfl, rfl, Nat.le_refl _, fun y z c h1 h2 => ?_, fun y hy => ?_, fun y c _ h => ?_, fun _ => hd, Around.frames_deeper e0.frames, .inr ⟨rfl, rfl⟩, fun b z => absurd z (noA b), e0.bs, e0.bsz, fun b _ _ => noA b, fun b z => absurd z (noA b), e0.funs, e0.frf⟩,
    rfl, e0.bare, Un.kept hk, ⟨_, x.toInCall.ns, fun i y v h1 h2 h3 => ?_⟩, fun y c h => ⟨_, x.cell y c h⟩, e0.hok.fresh (Nat.le_refl _), fun y c h => ?_, fun p hp => absurd (show p ∈ ([] : List (Addr × Obj)) from hp) (by simp), e0.hok.kept hk, ?_⟩
  · exact name_of_addr x.apart (PySem.mem_of_lookup h1) (PySem.mem_of_lookup h2)
  · have hy : scope.names.lookup y = some .cell ∨ scope.names.lookup y = some .free := hy
    rcases hy with hy | hy
    · exact cell_has hy
    · exact absurd rfl (S.nofree _ (PySem.mem_of_lookup hy))
  · exact Nat.le_of_lt (x.above y c (PySem.mem_of_lookup h))
  · have hi : i < vs.length := by
      unfold start at h2
      by_cases hi : i < vs.length
      · exact hi
      · rw [List.getElem?_append_right (by simpa using hi)] at h2
        rw [List.getElem?_replicate] at h2
        split at h2 <;> cases h2
    have ha : vs[i]? = some v := by
      unfold start at h2
      rw [List.getElem?_append_left (by simpa using hi), List.getElem?_map] at h2
      cases e : vs[i]? with
      | none => rw [e] at h2; cases h2
      | some a => rw [e] at h2; cases h2; rfl
    obtain ⟨u, hu, rv⟩ := r.get ha
    have hp : ps[i]? = some y := by
      rw [← S.pre, List.getElem?_take_of_lt (by omega)]; exact h1
    have ndP : ps.Nodup := by rw [← S.pre]; exact S.nd.sublist (List.take_sublist _ _)
    refine ⟨u, rv, ?_⟩
    rcases S.par y (List.mem_of_getElem? hp) with k | k
    · exact .inl ⟨k, bindL_get ndP hp hu k⟩
    · obtain ⟨c, e⟩ := cell_has (n := s.heap.objs.size + 1) k
      refine .inr ⟨.inl k, c, e, ?_⟩
      have q := x.cell y c e
      rw [bindC_get ndP hp hu (by show scope.names.lookup y ≠ _; rw [k]; decide)] at q
      exact q
  · exact e0.hok.fresh (Nat.le_of_lt (x.above y c (PySem.mem_of_lookup h)))
  · unfold start
    show _ = N.length
    rw [List.length_append, List.length_map, List.length_replicate]
    omega

/-- THE RULE: a def (or a method) of the text, by its body. The body's reading t is chosen for each entry; it is run at the parameters' values -/
theorem fn_of {CX : CXT} {P : Program} {w : World} {K : PySem.W.Frag} {mg : Str → Option Value} {base : Heap} {k : Nat} {f : Addr} {name qual : Str} {params : Arguments} {body : List Stmt} {scope : Scope} {dV kV doc pm cdv ct oc : Value} {an od : Option Addr}
    {osl : Array (Option Value)} {N ps : List Str} {sp : Sp} (lk : K.lookup f = some ⟨oc, od, .func (PySem.W.fnOf name qual params body scope dV kV doc pm an cdv ct), osl⟩) (hcd : PySem.W.codeIn K cdv qual = true) (S : FnScope N ps scope)
    (len : ∀ vs H Q E, sp vs H Q E → vs.length = ps.length)
    (hbody : ∀ (A : Around) (outer : List Env) (s : Shared) (H : Hp) (vs : List V) (Q : VK) (E : XK), Room k (A.deeper (envOfC qual scope s.heap.objs.size f cdv)) → sp vs H Q E →
      ∃ t, PSs (cxOf CX P w K mg base N qual scope f cdv A outer s H E) body t ∧ t { nx := fun _ H' => Q .non H', rt := Q } (start N vs) H) :
    FnOk P w K mg base CX (k + 1) f (PySem.W.fnOf name qual params body scope dV kV doc pm an cdv ct) ps sp := by
  refine ⟨len, fun A outer s H args us vs Q E hr e0 hb r hsp => ?_⟩
  have hl := len _ _ _ _ hsp
  have KX : K.In s.heap := e0.mod.kin.keeps fun b o e => (e0.bs b o e).1
  have lim : s.heap.NoLimit := e0.mod.nolimit.keeps fun b o e => (e0.bs b o e).1
  have hkind : ∀ y ∈ ps.zip us, scope.names.lookup y.1 = some .local ∨ (scope.names.lookup y.1 = some .cell ∧ ((cellsFrom (s.heap.objs.size + 1) scope.names []).lookup y.1).isSome = true) := fun ⟨n, v⟩ hy => by
    rcases S.par n (List.of_mem_zip hy).1 with q | q
    · exact .inl q
    · exact .inr ⟨q, PySem.W.cellsFrom_some _ _ _ (.inl q)⟩
  refine codeAny_call_function hr.depth (KX _ _ lk) rfl S.co S.gen rfl (PySem.W.codeRec_of KX hcd) (hb _ _ _ _ ?_)
  refine wpAny_newFunctionEnv_cells S.kind hkind fun env he s1 x => ?_
  subst he
  refine ⟨lim.keeps x.toInCall.keep, codeAny_func ?_⟩
  obtain ⟨t, ht, hq⟩ := hbody A outer s H vs Q E (hr.deeper _) hsp
  have I : Inv (cxOf CX P w K mg base N qual scope f cdv A outer s H E) [] (start N vs) H s1 := inv_start S hr.hd e0 hl r x
  refine wpAny_mono (ht [] s1 (start N vs) H _ I hq) (fun fl s' hs => ?_) fun e s' hs => hs
  have fin : ∀ {σ' : St} {H' : Hp} {v : V} {u : Value}, Inv (cxOf CX P w K mg base N qual scope f cdv A outer s H E) [] σ' H' s' → RelV v u → Q v H' → CE outer P w H s Q u s' :=
    fun {σ' H' v u} J rv q => ⟨v, H', J.os, J.bare, J.base, J.hok, rv, q⟩
  cases fl with
  | ret u =>
    obtain ⟨v, σ', H', J, rv, q⟩ := hs
    exact fin J rv q
  | next =>
    obtain ⟨σ', H', J, q⟩ := hs
    exact fin (v := V.non) (u := Value.none) J rfl q
  | brk =>
    obtain ⟨_, _, _, q⟩ := hs
    exact False.elim q
  | cont =>
    obtain ⟨_, _, _, q⟩ := hs
    exact False.elim q
end L2

namespace L2
open PySem PySem.Spec PyProof.Rows
section
variable {X : Cx} {x : Str} {p pos : Pos} {e : Expr} {es : List Expr} {t : TA} {id T : String} {r : List V → Hp → VK → Prop}

def tCB (r : List V → Hp → VK → Prop) (t : TA) : TE := fun σ H Q => t σ H fun vs H1 => r vs H1 Q
/-- f(e, ..), f a built-in function -/
theorem pe_callB (hc : CallR X (.builtin id) r) (hg : Gl X x) (hm : X.mg x = none) (hv : bootBuiltins x = some (.builtin id)) (ha : PA X (e :: es) t) (hn : x ≠ "__name__" := by decide) (hdb : (x == ("__debug__" : Str)) = false := by decide)
    (he : starEach (e :: es) X.env = (false, eval e X.env) :: starEach es X.env := by rfl) (hpl : (backTo pos (starEach es X.env)).any (·.1) = false := by rfl) : PE X (.Call (.Name x p) (e :: es) [] pos) (tCB r t) := by
  intro pins s σ H Q I h
  refine wpAny_Call_Name_kw (ld_blt I hg hm hv ?_ hn hdb)
  exact PyProof.Rows.callWith_builtin1 (thn (ha pos pins s σ H _ I h) fun us s1 ⟨vs, H1, I1, r1, q1⟩ => hc pins s1 σ H1 vs us Q I1 r1 q1) he hpl
/-- T(e, ..), T a built-in type -/
theorem pe_callTy (hc : CallR X (.type T) r) (hg : Gl X x) (hm : X.mg x = none) (hv : bootBuiltins x = some (.type T)) (ha : PA X (e :: es) t) (hn : x ≠ "__name__" := by decide) (hdb : (x == ("__debug__" : Str)) = false := by decide)
    (he : starEach (e :: es) X.env = (false, eval e X.env) :: starEach es X.env := by rfl) (hpl : (backTo pos (starEach es X.env)).any (·.1) = false := by rfl) : PE X (.Call (.Name x p) (e :: es) [] pos) (tCB r t) := by
  intro pins s σ H Q I h
  refine wpAny_Call_Name_kw (ld_blt I hg hm hv ?_ hn hdb)
  exact PyProof.Rows.callWith_type1 (thn (ha pos pins s σ H _ I h) fun us s1 ⟨vs, H1, I1, r1, q1⟩ => hc pins s1 σ H1 vs us Q I1 r1 q1) he hpl
/-- T() -/
theorem pe_callTy0 (hc : CallR X (.type T) r) (hg : Gl X x) (hm : X.mg x = none) (hv : bootBuiltins x = some (.type T)) (hn : x ≠ "__name__" := by decide) (hdb : (x == ("__debug__" : Str)) = false := by decide) :
    PE X (.Call (.Name x p) [] [] pos) (tCB r tNil) := by
  intro pins s σ H Q I h
  refine wpAny_Call_Name_kw (ld_blt I hg hm hv ?_ hn hdb)
  exact PyProof.Rows.callWith_type0 (hc pins s σ H [] [] Q I .nil h)
end
end L2

namespace HT
open PySem PyProof.Rows

/-- t < u of tuples of ints -/
def lexLt : List Int → List Int → Bool
  | [], [] => false
  | [], _ :: _ => true
  | _ :: _, [] => false
  | x :: xs, y :: ys => if x = y then lexLt xs ys else decide (x < y)
theorem lexLt_cons (x y : Int) (xs ys : List Int) : lexLt (x :: xs) (y :: ys) = if x = y then lexLt xs ys else decide (x < y) := rfl
theorem lexLt_nil_nil : lexLt [] [] = false := rfl
theorem lexLt_nil_cons (y : Int) (ys : List Int) : lexLt [] (y :: ys) = true := rfl
theorem lexLt_cons_nil (x : Int) (xs : List Int) : lexLt (x :: xs) [] = false := rfl

theorem eqAt_int (A : Around) (s : Shared) (a : Int) (t : Tok) (c : Int) (u : Tok) : ∃ e, SeqAt.EqAt A s (.int a t) (.int c u) e ∧ (e = true ↔ a = c) :=
  ⟨(a == c), SeqAt.EqAt.int_int a t c u, by simp⟩
theorem rcLt_int (A : Around) (s : Shared) (a : Int) (t : Tok) (c : Int) (u : Tok) (prog : Program) (w : World) (E : Value → Shared → Prop) (Q : Value → Shared → Prop) (h : Q (.bool (decide (a < c))) s) :
    wpAny (model prog w) A (richCompare .Lt (.int a t) (.int c u)) Q E s :=
  (PyProof.Rows.lt_int h : wpAny (model prog w) A (compareOp .Lt (.int a t) (.int c u)) Q E s)

section
open PySem.SeqAt
open PySem.AutoSeq1 (wpAny_loadPart')
open PySem.MeetsSeq PySem.MeetsSeq2 PySem.MeetsSeq3

theorem tuple_lt_ints (l b : Addr) (items items2 : Array Value) (n n2 : Nat) (dd dd2 : Option Addr) (sl sl2 : Array (Option Value)) (ns ms : List Int) (hi : IntsAre items.toList ns) (hj : IntsAre items2.toList ms) :
    Meets (Builtin.«tuple.__lt__» ⟨[.ref l, .ref b], []⟩)
      (fun _ R s => s.heap.get? l = some { cls := .type "tuple", dict := dd, data := .seq items n, slots := sl } ∧ s.heap.get? b = some { cls := .type "tuple", dict := dd2, data := .seq items2 n2, slots := sl2 } ∧
        R (.ok (.ret (.bool (lexLt ns ms)))) s) :=
  .of_wp fun prog w A R s h => by
    obtain ⟨hp, g, d, tk, os⟩ := s; obtain ⟨hl, hb, h⟩ := h
    have f2 := AutoSeq1.sub_tuple_tuple
    have z1 : items.size = ns.length := by rw [← hi.length]; simp
    have z2 : items2.size = ms.length := by rw [← hj.length]; simp
    wp_walk using wpAny_loadPart' hl, wpAny_loadPart' hb, wpAny_forIn_list _ (fun rest b s' => b.1 = none ∧ s' = ⟨hp, g, d, tk, os⟩ ∧ ∃ (vs ws : List Value) (ns' ms' : List Int), rest = vs.zip ws ∧
      IntsAre vs ns' ∧ IntsAre ws ms' ∧ ns'.length + items2.size = ms'.length + items.size ∧ R (.ok (.ret (.bool (lexLt ns' ms')))) ⟨hp, g, d, tk, os⟩) _
    case turn =>
      rintro ⟨y, x⟩ rest b s' ⟨hb', rfl, vs, ws, ns', ms', hz, hvi, hwi, hlen, hR⟩
      cases hvi with
      | nil => rw [List.zip_nil_left] at hz; cases hz
      | cons a t hvi' =>
        cases hwi with
        | nil => rw [List.zip_nil_right] at hz; cases hz
        | cons c u hwi' =>
          rw [List.zip_cons_cons] at hz
          injection hz with hyx hrest
          injection hyx with hy hx
          subst hy hx
          rw [lexLt_cons] at hR
          simp only [List.length_cons] at hlen
          obtain ⟨e, he, hiff⟩ := eqAt_int A.in1 ⟨hp, g, d, tk, os⟩ a t c u
          refine wpAny_bind (he prog w _ _ ?_)
          cases e with
          | true =>
            rw [if_pos (hiff.mp rfl)] at hR
            wp_walk
            exact ⟨rfl, rfl, _, _, _, _, hrest, hvi', hwi', by omega, hR⟩
          | false =>
            rw [if_neg (fun q => absurd (hiff.mpr q) Bool.false_ne_true)] at hR
            have hri := rcLt_int A.in1 ⟨hp, g, d, tk, os⟩ a t c u prog w
            wp_walk using hri
            exact ⟨_, rfl, by simpa using hR⟩
    case fin =>
      rintro ⟨b1, b2⟩ s' ⟨hb', rfl, vs, ws, ns', ms', hz, hvi, hwi, hlen, hR⟩
      simp only at hb'
      subst hb'
      have hv : lexLt ns' ms' = decide (items.size < items2.size) := by
        cases hvi with
        | nil =>
          cases hwi with
          | nil =>
            simp only [List.length_nil] at hlen
            rw [lexLt_nil_nil]
            exact (decide_eq_false (by omega)).symm
          | cons c u hw =>
            simp only [List.length_nil, List.length_cons] at hlen
            rw [lexLt_nil_cons]
            exact (decide_eq_true (by omega)).symm
        | cons a t hv =>
          cases hwi with
          | nil =>
            simp only [List.length_nil, List.length_cons] at hlen
            rw [lexLt_cons_nil]
            exact (decide_eq_false (by omega)).symm
          | cons c u hw =>
            rw [List.zip_cons_cons] at hz
            cases hz
      rw [hv] at hR
      wp_walk
      exact ⟨_, rfl, by simpa [Builtin.Tuple.tupleCompareSizes] using hR⟩
    case h =>
      exact ⟨rfl, rfl, items.toList, items2.toList, ns, ms, rfl, hi, hj, by omega, h⟩
end

section
variable {prog : Program} {w : World} {A : Around} {E : Value → Shared → Prop} {s : Shared}

theorem lt_tupInts {l b : Addr} {items items2 : Array Value} {ns ms : List Int} {Q : Value → Shared → Prop} (hl : IsTup s.heap l items) (hb : IsTup s.heap b items2) (hi : IntsAre items.toList ns) (hj : IntsAre items2.toList ms)
    (hu : A.units < cLine) (h : Q (.bool (lexLt ns ms)) s) : wpAny (model prog w) A (compareOp .Lt (.ref l) (.ref b)) Q E s := by
  obtain ⟨⟨cls, dd, data, sl⟩, ho, hc, n, hd⟩ := id hl
  obtain ⟨⟨cls2, dd2, data2, sl2⟩, ho2, hc2, n2, hd2⟩ := id hb
  simp only at hc hd hc2 hd2
  subst hc hd hc2 hd2
  exact richCompare_meets_room (op := .Lt) ⟨_, ho, rfl⟩ ⟨_, ho2, rfl⟩ PySem.F.slot_tuple_lt PySem.F.entry_tuple_lt (PySem.F.args_tuple_lt_2 _ _) (tuple_lt_ints l b items items2 n n2 dd dd2 sl sl2 ns ms hi hj)
    ⟨ho, ho2, show Value.bool (lexLt ns ms) ≠ Value.notImplemented ∧ Q (.bool (lexLt ns ms)) s from ⟨(fun x => nomatch x), h⟩⟩ hu

/-- t + u, t not empty -/
theorem cat_tup {t b : Addr} {vs ws : List Value} {Q : Value → Shared → Prop} (ht : IsTup s.heap t vs.toArray) (hb : IsTup s.heap b ws.toArray) (hv : vs ≠ [])
    (h1 : ws = [] → Q (.ref t) s) (h2 : ws ≠ [] → Q (.ref s.heap.objs.size) { s with heap := s.heap.push { cls := .type "tuple", data := .seq (vs ++ ws).toArray } })
    (hsz : vs.length + ws.length ≤ sizeLine) : wpAny (model prog w) A (binaryOp .Add (.ref t) (.ref b)) Q E s := by
  obtain ⟨⟨cls, dd, data, sl⟩, ho, hc, n, hd⟩ := id ht
  obtain ⟨⟨cls2, dd2, data2, sl2⟩, ho2, hc2, n2, hd2⟩ := id hb
  simp only at hc hd hc2 hd2
  subst hc hd hc2 hd2
  have e : vs.toArray ++ ws.toArray = (vs ++ ws).toArray := by simp
  by_cases hw : ws = []
  · exact concat_meets ⟨_, ho, rfl⟩ ⟨_, ho2, rfl⟩ noFill_tuple_add seq_tuple_add PySem.F.slot_tuple_add PySem.F.entry_tuple_add (PySem.F.args_tuple_add_2 _ _)
      (tuple_addW1 t b vs.toArray ws.toArray n n2 dd dd2 sl sl2 (by simpa using hv) (by simp [hw])) ⟨ho, ho2, h1 hw⟩
  · refine concat_meets ⟨_, ho, rfl⟩ ⟨_, ho2, rfl⟩ noFill_tuple_add seq_tuple_add PySem.F.slot_tuple_add PySem.F.entry_tuple_add (PySem.F.args_tuple_add_2 _ _)
      (tuple_addW2 t b vs.toArray ws.toArray n n2 dd dd2 sl sl2 (by simpa using hv) (by simpa using hw) (by rw [List.size_toArray, List.size_toArray]; exact hsz)) ⟨ho, ho2, ?_⟩
    rw [e]
    exact h2 hw

/-! ### t[a:b], not the whole -/
/-- a slice's bound as a place among n (d where it is left out) -/
def sIx (n d : Nat) : Option Int → Nat
  | none => d
  | some v => if v < 0 then (v + (n : Int)).toNat else min v.toNat n
theorem sIx_none (n d : Nat) : sIx n d none = d := rfl
theorem sIx_nat (n d k : Nat) : sIx n d (some (k : Int)) = min k n := by
  show (if (k : Int) < 0 then ((k : Int) + (n : Int)).toNat else min (k : Int).toNat n) = min k n
  rw [if_neg (by omega), Int.toNat_natCast]
theorem sIx_le (n d : Nat) (hd : d ≤ n) (o : Option Int) : sIx n d o ≤ n := by
  cases o with
  | none => exact hd
  | some v =>
    show (if v < 0 then (v + (n : Int)).toNat else min v.toNat n) ≤ n
    by_cases hv : v < 0
    · rw [if_pos hv]; omega
    · rw [if_neg hv]; exact Nat.min_le_right _ _
theorem clip_eq (v : Int) (n d : Nat) : (if v < 0 then max (v + (n : Int)) 0 else min v (n : Int)) = ((sIx n d (some v) : Nat) : Int) := by
  show (if v < 0 then max (v + (n : Int)) 0 else min v (n : Int)) = (((if v < 0 then (v + (n : Int)).toNat else min v.toNat n) : Nat) : Int)
  by_cases hv : v < 0
  · simp only [if_pos hv]; omega
  · simp only [if_neg hv]; omega
theorem adjust_gen (lo hi : Option Int) (n : Nat) : Builtin.Slice.sliceAdjust lo hi 1 (n : Int) = (((sIx n 0 lo : Nat) : Int), ((sIx n n hi : Nat) : Int)) := by
  have h1 : ¬ ((1 : Int) < 0) := by omega
  unfold Builtin.Slice.sliceAdjust
  simp only [h1, if_false]
  refine Prod.ext ?_ ?_
  · cases lo with
    | none => rfl
    | some v => exact clip_eq v n 0
  · cases hi with
    | none => rfl
    | some v => exact clip_eq v n n
theorem places_gen (i j : Nat) : Builtin.Slice.slicePlaces (i : Int) (j : Int) 1 = j - i := by
  unfold Builtin.Slice.slicePlaces
  have h1 : (1 : Int) > 0 := by omega
  simp only [h1, if_true, Int.ediv_one]
  split <;> omega
theorem slicePart_ {v : Value} {o : Option Int} {Q : Option Int → Shared → Prop} (p : IsPart v o) (h : Q o s) : wpAny (model prog w) A (Builtin.Slice.slicePartIndex v) Q E s := by
  cases p with
  | none => exact slicePart_none h
  | int i t => exact slicePart_int h
theorem sliceApplied_gen {sl : Addr} {vl vu : Value} {lo hi : Option Int} {n : Nat} {Q : Int × Int × Nat → Shared → Prop} (hs : s.heap.IsSliceOf sl vl vu .none) (pl : IsPart vl lo) (pu : IsPart vu hi)
    (h : Q (((sIx n 0 lo : Nat) : Int), 1, sIx n n hi - sIx n 0 lo) s) : wpAny (model prog w) A (Builtin.Slice.sliceApplied (.ref sl) (pure (n : Int))) Q E s := by
  obtain ⟨os, hos, hcs, hds⟩ := id hs
  unfold Builtin.Slice.sliceApplied Builtin.Slice.sliceFields
  refine wpAny_bind (wpAny_bind (wpAny_field hos hds (x := vl) rfl (wpAny_bind (wpAny_field hos hds (x := vu) rfl (wpAny_bind (wpAny_field hos hds (x := .none) rfl (wpAny_pure ?_)))))))
  refine wpAny_bind (slicePart_none ?_)
  show wpAny _ _ (if ((1 : Int) == 0) = true then _ else _) _ _ s
  rw [if_neg (by decide)]
  refine wpAny_bind (slicePart_ pl (wpAny_bind (slicePart_ pu (wpAny_bind (wpAny_pure ?_)))))
  show wpAny _ _ (match Builtin.Slice.sliceAdjust lo hi 1 (n : Int) with | (lo, hi) => pure (lo, (1 : Int), Builtin.Slice.slicePlaces lo hi 1)) _ _ s
  rw [adjust_gen lo hi n]
  show wpAny _ _ (pure (((sIx n 0 lo : Nat) : Int), (1 : Int), Builtin.Slice.slicePlaces ((sIx n 0 lo : Nat) : Int) ((sIx n n hi : Nat) : Int) 1)) _ _ s
  rw [places_gen]
  exact wpAny_pure h
theorem pick_gen (xs : Array Value) (i k : Nat) : ((List.range k).filterMap fun (m : Nat) => xs[((i : Int) + (m : Int) * 1).toNat]?).toArray = ((xs.toList.drop i).take k).toArray := by
  have e : (fun (m : Nat) => xs[((i : Int) + (m : Int) * 1).toNat]?) = fun m => xs[i + m]? := by
    funext m
    have : ((i : Int) + (m : Int) * 1).toNat = i + m := by omega
    rw [this]
  rw [e]
  have := pick_run xs i k
  rw [List.filterMap_map] at this
  have e2 : ((fun x => xs[x]?) ∘ fun x => i + x) = fun m => xs[i + m]? := rfl
  rw [e2] at this
  rw [this]

theorem getItem_tuple_cut {t sl : Addr} {items : Array Value} {vl vu : Value} {lo hi : Option Int} {Q : Value → Shared → Prop} (ht : IsTup s.heap t items) (hs : s.heap.IsSliceOf sl vl vu .none) (pl : IsPart vl lo) (pu : IsPart vu hi)
    (hw : ¬ (sIx items.size 0 lo = 0 ∧ sIx items.size items.size hi = items.size))
    (h : Q (.ref s.heap.objs.size) { s with heap := s.heap.push { cls := .type "tuple", data := .seq ((items.toList.drop (sIx items.size 0 lo)).take (sIx items.size items.size hi - sIx items.size 0 lo)).toArray } })
    (hsz : items.size ≤ sizeLine) : wpAny (model prog w) A (getItem (.ref t) (.ref sl)) Q E s := by
  have htake : sizeOk (.seq ((items.toList.drop (sIx items.size 0 lo)).take (sIx items.size items.size hi - sIx items.size 0 lo)).toArray) := by
    show ((items.toList.drop (sIx items.size 0 lo)).take (sIx items.size items.size hi - sIx items.size 0 lo)).toArray.size ≤ sizeLine
    rw [List.size_toArray, List.length_take, List.length_drop, Array.length_toList]
    omega
  have hj : sIx items.size items.size hi ≤ items.size := sIx_le _ _ (Nat.le_refl _) hi
  obtain ⟨os, hos, hcs, hds⟩ := id hs
  have hTs : s.TypeIs (.ref sl) "slice" := ⟨os, hos, hcs⟩
  unfold getItem
  try with_reducible refine wpAny_holding ?_
  first | refine wpAny_bind (wpAny_pure ?_) | skip
  refine wpAny_bind (wpAny_sequenceKey ht.typeIs (by decide) ?_)
  refine wpAny_bind (wpAny_callSpecial?_slot (name := Str.ofString "__getitem__") ht.typeIs PyProof.Rows.slot_tuple_getitem
    (wpAny_call_entry PyProof.Rows.slot_tuple_getitem ht.typeIs entry_tuple_getitem ?_ (args_tuple_getitem _ _)))
  show wpAny _ _ (Builtin.Tuple.tupleItemsOf (.ref t) >>= _) _ _ s
  refine wpAny_bind (tupleItemsOf_ ht ?_)
  refine wpAny_bind (wpAny_typeOf hTs ?_)
  rw [if_pos (by decide)]
  refine wpAny_bind (sliceApplied_gen hs pl pu ?_)
  have hno : ¬ ((((sIx items.size 0 lo : Nat) : Int) == 0 && (1 : Int) == 1 && (sIx items.size items.size hi - sIx items.size 0 lo) == items.size) = true) := by
    intro q
    rw [Bool.and_eq_true, Bool.and_eq_true] at q
    have q1 : ((sIx items.size 0 lo : Nat) : Int) = 0 := eq_of_beq q.1.1
    have q2 : sIx items.size items.size hi - sIx items.size 0 lo = items.size := eq_of_beq q.2
    exact hw ⟨by omega, by omega⟩
  show wpAny _ _ (if (((sIx items.size 0 lo : Nat) : Int) == 0 && (1 : Int) == 1 && (sIx items.size items.size hi - sIx items.size 0 lo) == items.size) = true then _ else _) _ _ s
  rw [if_neg hno, pick_gen]
  first
    | exact wpAny_bind (m := Builtin.Tuple.tupleExact _) (wpAny_newObj_type (wpAny_pure ⟨_, rfl, wpAny_pure h⟩) htake)
    | exact wpAny_bind (m := Builtin.Tuple.tupleExact _) (wpAny_newObj_type (wpAny_bind (wpAny_pure (wpAny_pure ⟨_, rfl, wpAny_pure h⟩))) htake)
    | exact wpAny_bind (wpAny_bind (m := Builtin.Tuple.tupleExact _) (wpAny_newObj_type (wpAny_pure (wpAny_pure ⟨_, rfl, wpAny_pure h⟩)) htake))
    | exact wpAny_bind (wpAny_bind (m := Builtin.Tuple.tupleExact _) (wpAny_newObj_type (wpAny_pure ⟨_, rfl, wpAny_pure h⟩) htake))
end
end HT

namespace L2
open PySem PySem.Spec PyProof.Rows

/-! ### the parts of a slice -/
abbrev TO := St → Hp → (Option Int → Hp → Prop) → Prop
/-- a slice's part (left out, or an int) -/
def PO (X : Cx) (e : Option Expr) (t : TO) : Prop :=
  ∀ (pins : List (Addr × Obj)) (s : Shared) (σ : St) (H : Hp) (Q : Option Int → Hp → Prop), Inv X pins σ H s → t σ H Q →
    wpAny (model X.prog X.w) X.A (evalPart e X.env) (fun u s' => ∃ o H', Inv X pins σ H' s' ∧ IsPart u o ∧ Q o H') X.xe s
def tNoPart : TO := fun _ H Q => Q none H
def tPart (t : TE) : TO := fun σ H Q => t σ H fun x H1 => ∃ i, x = .int i ∧ Q (some i) H1

theorem intsAre_of {ns : List Int} : ∀ {us : List Value}, Vals (ns.map V.int) us → IntsAre us ns := by
  induction ns with
  | nil => intro us r; rw [List.map_nil] at r; cases r; exact .nil
  | cons n ns ih =>
    intro us r
    rw [List.map_cons] at r
    cases r with
    | cons r1 r2 =>
      obtain ⟨t, e⟩ := r1
      subst e
      exact .cons n t (ih r2)

section
variable {X : Cx} {e : Expr} {te : TE} {lo hi : Option Expr} {tl th : TO} {pos p2 : Pos}

theorem po_none : PO X none tNoPart := by
  intro pins s σ H Q I h
  rw [evalPart_none]
  exact wpAny_pure ⟨none, H, I, .none, h⟩
theorem po_some (h : PE X e te) : PO X (some e) (tPart te) := by
  intro pins s σ H Q I hw
  rw [evalPart_some]
  refine thn (h pins s σ H _ I hw) fun u s1 ⟨x, H1, I1, r1, q1⟩ => ?_
  obtain ⟨i, rfl, q⟩ := q1
  obtain ⟨t, rfl⟩ := r1
  exact ⟨some i, H1, I1, .int i t, q⟩

/-- what a slice of a value is, by values: the slice object stands at sl -/
def SlR (X : Cx) (r : V → Option Int → Option Int → Hp → VK → Prop) : Prop :=
  ∀ (pins : List (Addr × Obj)) (s : Shared) (σ : St) (H : Hp) (x : V) (v vl vu : Value) (lo hi : Option Int) (sl : Addr) (Q : VK), Inv X pins σ H s → RelV x v → s.heap.IsSliceOf sl vl vu .none → IsPart vl lo → IsPart vu hi → r x lo hi H Q →
    ∃ T id, typeLookup (.type T) "__getitem__" = pure (some (.builtin id)) ∧ s.TypeIs v T ∧ wpAny (model X.prog X.w) X.A (getItem v (.ref sl)) (EP X pins σ Q) X.xe s
theorem SlR.or {r r' : V → Option Int → Option Int → Hp → VK → Prop} (h : SlR X r) (h' : SlR X r') : SlR X (fun x lo hi H Q => r x lo hi H Q ∨ r' x lo hi H Q) := by
  intro pins s σ H x v vl vu lo hi sl Q I rx hs pl pu q
  rcases q with q | q
  · exact h pins s σ H x v vl vu lo hi sl Q I rx hs pl pu q
  · exact h' pins s σ H x v vl vu lo hi sl Q I rx hs pl pu q
def tSl (r : V → Option Int → Option Int → Hp → VK → Prop) (te : TE) (tl th : TO) : TE := fun σ H Q => te σ H fun x H1 => tl σ H1 fun l H2 => th σ H2 fun u H3 => r x l u H3 Q
/-- a[lo:hi], any a -/
theorem pe_slice {r : V → Option Int → Option Int → Hp → VK → Prop} (hr : SlR X r) (he : PE X e te) (hl : PO X lo tl) (hu : PO X hi th) : PE X (.Subscript e (.Slice lo hi none p2) pos) (tSl r te tl th) := by
  intro pins s σ H Q I h
  refine Subscript_ (thn (he pins s σ H _ I h) fun v s1 ⟨x, H1, I1, r1, q1⟩ => ?_)
  refine wpAny_Slice (thn (hl pins s1 σ H1 _ I1 q1) fun vl s2 ⟨l, H2, I2, pl, q2⟩ => thn (hu pins s2 σ H2 _ I2 q2) fun vu s3 ⟨u, H3, I3, pu, q3⟩ => ?_)
  rw [evalPart_none]
  refine wpAny_pure ?_
  have I4 : Inv X pins σ H3 { s3 with heap := s3.heap.push { cls := .type "slice", data := .fields #[vl, vu, .none] } } := I3.kept (t' := s3.toks) fun b ob q => Heap.get?_push_of_some _ q
  obtain ⟨T, id, hT, ht, hg⟩ := hr pins { s3 with heap := s3.heap.push { cls := .type "slice", data := .fields #[vl, vu, .none] } } σ H3 x v vl vu l u s3.heap.objs.size Q I4 r1 (Heap.IsSliceOf.new ..) pl pu q3
  show wpAny (model X.prog X.w) X.A (subscriptTail e (.Slice lo hi none p2) v (.ref s3.heap.objs.size)) (EP X pins σ Q) X.xe { s3 with heap := s3.heap.push { cls := .type "slice", data := .fields #[vl, vu, .none] } }
  exact tail_any (ops := [.ref s3.heap.objs.size, v]) ht hT hg (by with_unfolding_all rfl)

/-- the items of xs[lo:hi] -/
def cutV (xs : List V) (lo hi : Option Int) : List V := (xs.drop (HT.sIx xs.length 0 lo)).take (HT.sIx xs.length xs.length hi - HT.sIx xs.length 0 lo)
theorem cutV_length (xs : List V) (lo hi : Option Int) : (cutV xs lo hi).length ≤ xs.length := by
  unfold cutV
  rw [List.length_take, List.length_drop]
  omega
/-- t[lo:hi], not the whole of it (the whole would be t itself) -/
def rSlT (K : PySem.W.Frag) : V → Option Int → Option Int → Hp → VK → Prop := fun x lo hi H Q => ∃ a xs, x = .ref a ∧ SqT K H a xs ∧
  ¬ (HT.sIx xs.length 0 lo = 0 ∧ HT.sIx xs.length xs.length hi = xs.length) ∧ ∀ p, H p = none → Q (.ref p) (upd H p (.tup (cutV xs lo hi)))
theorem sl_tup : SlR X (rSlT X.K) := by
  intro pins s σ H x v vl vu lo hi sl Q I rx hs pl pu h
  obtain ⟨a, xs, rfl, hx, hw, q⟩ := h
  cases rx
  obtain ⟨its, r, ht, hz⟩ := I.tuple hx
  have hlen : its.toArray.size = xs.length := by rw [List.size_toArray]; exact r.length.symm
  refine ⟨"tuple", _, PyProof.Rows.slot_tuple_getitem.lookup, ht.typeIs, ?_⟩
  refine HT.getItem_tuple_cut ht hs pl pu (by rw [hlen]; exact hw) ?_ (by rw [hlen]; exact hz)
  rw [hlen]
  refine ⟨.ref s.heap.objs.size, _, I.laid (t' := s.toks) (o := .tup (cutV xs lo hi)) (fun b ob q => Heap.get?_push_of_some _ q) (Nat.le_refl _) ?_, rfl, q _ (I.hok.fresh (Nat.le_refl _))⟩
  exact ⟨Nat.le_trans (cutV_length xs lo hi) hz, _, (r.drop (HT.sIx xs.length 0 lo)).take (HT.sIx xs.length xs.length hi - HT.sIx xs.length 0 lo), IsTup.new _ _⟩

/-! ### t < u, t + u -/
def rLtT (K : PySem.W.Frag) : R2 := fun x y H Q => ∃ a b ns ms, x = .ref a ∧ y = .ref b ∧ SqT K H a (ns.map V.int) ∧ SqT K H b (ms.map V.int) ∧ Q (.bl (HT.lexLt ns ms)) H
theorem op_ltT (hu : X.A.units < cLine) : OpR X (compareOp .Lt) (rLtT X.K) := by
  intro pins s σ H x y v u Q I rx ry h
  obtain ⟨a, b, ns, ms, rfl, rfl, ha, hb, q⟩ := h
  cases rx
  cases ry
  obtain ⟨its, r1, p1, _⟩ := I.tuple ha
  obtain ⟨its2, r2, p2, _⟩ := I.tuple hb
  have i1 : IntsAre its.toArray.toList ns := intsAre_of r1
  have i2 : IntsAre its2.toArray.toList ms := intsAre_of r2
  exact HT.lt_tupInts p1 p2 i1 i2 hu ⟨.bl (HT.lexLt ns ms), H, I, rfl, q⟩
/-- t + u, t not empty: u empty gives t itself -/
def rCatT (K : PySem.W.Frag) : R2 := fun x y H Q => ∃ a b xs ys, x = .ref a ∧ y = .ref b ∧ SqT K H a xs ∧ SqT K H b ys ∧ xs ≠ [] ∧ xs.length + ys.length ≤ sizeLine ∧
  (ys = [] → Q (.ref a) H) ∧ (ys ≠ [] → ∀ p, H p = none → Q (.ref p) (upd H p (.tup (xs ++ ys))))
theorem Vals.nil_iff {xs : List V} {us : List Value} (r : Vals xs us) : us = [] ↔ xs = [] := by
  cases r with
  | nil => simp
  | cons _ _ => simp
theorem op_catT : OpR X (binaryOp .Add) (rCatT X.K) := by
  intro pins s σ H x y v u Q I rx ry h
  obtain ⟨a, b, xs, ys, rfl, rfl, ha, hb, hx, hz, q1, q2⟩ := h
  cases rx
  cases ry
  obtain ⟨its, r1, p1, _⟩ := I.tuple ha
  obtain ⟨its2, r2, p2, _⟩ := I.tuple hb
  refine HT.cat_tup p1 p2 (fun z => hx (r1.nil_iff.mp z)) (fun z => ⟨.ref a, H, I, rfl, q1 (r2.nil_iff.mp z)⟩) (fun z => ?_) (by rw [← r1.length, ← r2.length]; exact hz)
  refine ⟨.ref s.heap.objs.size, _, I.laid (t' := s.toks) (o := .tup (xs ++ ys)) (fun b ob q => Heap.get?_push_of_some _ q) (Nat.le_refl _) ?_, rfl, q2 (fun w => z (r2.nil_iff.mpr w)) _ (I.hok.fresh (Nat.le_refl _))⟩
  exact ⟨by rw [List.length_append]; exact hz, _, r1.append r2, IsTup.new _ _⟩
/-- tuple(t) -/
theorem call_tupleT : CallR X (.type "tuple") (fun xs H Q => ∃ a ys, xs = [.ref a] ∧ SqT X.K H a ys ∧ Q (.ref a) H) := by
  intro pins s σ H xs us Q I r h
  obtain ⟨a, ys, rfl, ha, q⟩ := h
  obtain ⟨u, rfl, ru⟩ := vals1 r
  cases ru
  obtain ⟨its, _, p1, _⟩ := I.tuple ha
  exact call_tuple_same (items := its.toArray) p1 ⟨.ref a, H, I, rfl, q⟩
end
end L2

namespace L2
open PySem PySem.Spec PyProof.Rows

/-! ### places -/
/-- the place that an index of any sign means -/
def ixN (n : Nat) (i : Int) : Option Nat := if 0 ≤ i then (if i < n then some i.toNat else none) else if -(n : Int) ≤ i then some (i + n).toNat else none
def atI {α : Type} (xs : List α) (i : Int) : Option α := (ixN xs.length i).bind fun j => xs[j]?
theorem ixN_seq {n : Nat} {i : Int} {j : Nat} (h : ixN n i = some j) : seqIndex? i n = some j ∧ j < n ∧ -(n : Int) ≤ i ∧ i < n := by
  unfold ixN at h
  by_cases h0 : 0 ≤ i
  · rw [if_pos h0] at h
    by_cases h1 : i < n
    · rw [if_pos h1] at h
      have e : i.toNat = j := Option.some.inj h
      exact ⟨by rw [seqIndex_of h0 h1, e], by omega, by omega, h1⟩
    · rw [if_neg h1] at h; cases h
  · rw [if_neg h0] at h
    by_cases h1 : -(n : Int) ≤ i
    · rw [if_pos h1] at h
      have e : (i + n).toNat = j := Option.some.inj h
      exact ⟨by rw [seqIndex_neg (by omega) h1, e], by omega, h1, by omega⟩
    · rw [if_neg h1] at h; cases h
theorem atI_get {α : Type} {xs : List α} {i : Int} {v : α} (h : atI xs i = some v) : ∃ j, seqIndex? i xs.length = some j ∧ xs[j]? = some v ∧ j < xs.length ∧ -(xs.length : Int) ≤ i ∧ i < xs.length := by
  unfold atI at h
  cases e : ixN xs.length i with
  | none => rw [e] at h; cases h
  | some j =>
    rw [e] at h
    obtain ⟨h1, h2, h3, h4⟩ := ixN_seq e
    exact ⟨j, h1, h, h2, h3, h4⟩
theorem atI_nat {α : Type} {xs : List α} {j : Nat} {v : α} (h : xs[j]? = some v) : atI xs (j : Int) = some v := by
  have hj : j < xs.length := (List.getElem?_eq_some_iff.mp h).1
  have e : ixN xs.length (j : Int) = some j := by
    unfold ixN
    rw [if_pos (by omega), if_pos (by omega)]; simp
  unfold atI; rw [e]; exact h
theorem atI_last {α : Type} (xs : List α) (v : α) : atI (xs ++ [v]) (-1) = some v := by
  have hl : (xs ++ [v]).length = xs.length + 1 := by simp
  have e : ixN (xs ++ [v]).length (-1) = some xs.length := by
    unfold ixN
    rw [hl, if_neg (by decide), if_pos (by omega)]
    congr 1
    omega
  unfold atI
  rw [e]
  show (xs ++ [v])[xs.length]? = some v
  simp

/-! ### what may be subscripted -/
/-- what stands as an index of a plain subscript -/
def PlainIx (b : Expr) : Prop := ∀ o i, subscripted b false o i = operate [o, i] (getItem o i)
/-- a subscript by values -/
def IxR (X : Cx) (r : R2) : Prop :=
  ∀ (value slice : Expr) (pins : List (Addr × Obj)) (s : Shared) (σ : St) (H : Hp) (x y : V) (v u : Value) (Q : VK), Inv X pins σ H s → RelV x v → RelV y u → r x y H Q →
    subscripted slice false v u = operate [v, u] (getItem v u) → wpAny (model X.prog X.w) X.A (subscriptTail value slice v u) (EP X pins σ Q) X.xe s
/-- a call of a builtin's method by values: the receiver, the arguments -/
def MtR (X : Cx) (id : String) (r : V → List V → Hp → VK → Prop) : Prop :=
  ∀ (pins : List (Addr × Obj)) (s : Shared) (σ : St) (H : Hp) (x : V) (xs : List V) (v : Value) (us : List Value) (Q : VK), Inv X pins σ H s → RelV x v → Vals xs us → r x xs H Q →
    wpAny (model X.prog X.w) X.A (call (.builtin id) (v :: us)) (EP X pins σ Q) X.xe s
section
variable {X : Cx} {a b : Expr} {ta tb : TE} {pos : Pos}
theorem IxR.or {r r' : R2} (h : IxR X r) (h' : IxR X r') : IxR X (fun x y H Q => r x y H Q ∨ r' x y H Q) := by
  intro value slice pins s σ H x y v u Q I rx ry q hs
  rcases q with q | q
  · exact h value slice pins s σ H x y v u Q I rx ry q hs
  · exact h' value slice pins s σ H x y v u Q I rx ry q hs
theorem MtR.or {id : String} {r r' : V → List V → Hp → VK → Prop} (h : MtR X id r) (h' : MtR X id r') : MtR X id (fun x xs H Q => r x xs H Q ∨ r' x xs H Q) := by
  intro pins s σ H x xs v us Q I rx rs q
  rcases q with q | q
  · exact h pins s σ H x xs v us Q I rx rs q
  · exact h' pins s σ H x xs v us Q I rx rs q
/-- a[b] -/
theorem pe_ix {r : R2} (hr : IxR X r) (ha : PE X a ta) (hb : PE X b tb) (hs : PlainIx b) : PE X (.Subscript a b pos) (tOp r ta tb) := by
  intro pins s σ H Q I h
  exact Subscript_ (binT ha hb I h fun v u s2 x y H2 I2 rx ry q => hr a b pins s2 σ H2 x y v u Q I2 rx ry q (hs _ _))

def rIxL (K : PySem.W.Frag) : R2 := fun x y H Q => ∃ p xs i v, x = .ref p ∧ y = .int i ∧ SqL K H p xs ∧ atI xs i = some v ∧ Q v H
def rIxT (K : PySem.W.Frag) : R2 := fun x y H Q => ∃ p xs i v, x = .ref p ∧ y = .int i ∧ SqT K H p xs ∧ atI xs i = some v ∧ Q v H
def rIxS : R2 := fun x y H Q => ∃ z i c, x = .str z ∧ y = .int i ∧ z.length ≤ sizeLine ∧ atI z.cps.toList i = some c ∧ Q (.str ⟨#[c]⟩) H
theorem ix_list : IxR X (rIxL X.K) := by
  intro value slice pins s σ H x y v u Q I rx ry h hs
  obtain ⟨p, xs, i, z, rfl, rfl, hq, he, q⟩ := h
  cases rx
  obtain ⟨t, rfl⟩ := ry
  obtain ⟨its, r, pl, hz⟩ := I.list hq
  obtain ⟨j, h1, h2, h3, h4, h5⟩ := atI_get he
  obtain ⟨w, ew, rw'⟩ := r.get h2
  have hl := r.length
  have hn := line63
  have fin : EP X pins σ Q w s := ⟨z, H, I, rw', q⟩
  by_cases h0 : 0 ≤ i
  · have hj : i.toNat = j := by
      rw [seqIndex_of h0 h5] at h1
      exact Option.some.inj h1
    exact item_listR pl.isList h0 (by omega) (by rw [hj]; simpa using ew) fin hs
  · have hj : (i + (its.toArray.size : Int)).toNat = j := by
      rw [seqIndex_neg (by omega) h4] at h1
      rw [List.size_toArray, ← hl]
      exact Option.some.inj h1
    exact subscriptTail_builtinR (x := w) pl.isList.typeIs slot_list_getitem.lookup
      (wpAny_getItem_list_neg (Q := fun r s' => r = w ∧ EP X pins σ Q r s') pl.isList (by omega) (by rw [List.size_toArray] <;> omega) (by omega) (by rw [hj]; simpa using ew) ⟨rfl, fin⟩) hs
theorem ix_tup : IxR X (rIxT X.K) := by
  intro value slice pins s σ H x y v u Q I rx ry h hs
  obtain ⟨p, xs, i, z, rfl, rfl, hq, he, q⟩ := h
  cases rx
  obtain ⟨t, rfl⟩ := ry
  obtain ⟨its, r, pl, hz⟩ := I.tuple hq
  obtain ⟨j, h1, h2, h3, h4, h5⟩ := atI_get he
  obtain ⟨w, ew, rw'⟩ := r.get h2
  have hl := r.length
  have hn := line63
  have fin : EP X pins σ Q w s := ⟨z, H, I, rw', q⟩
  exact subscriptTail_builtinR (x := w) pl.typeIs slot_tuple_getitem.lookup
    (getItem_tuple (j := j) (Q := fun r s' => r = w ∧ EP X pins σ Q r s') pl (by omega) (by omega) (by rw [List.size_toArray, ← hl]; exact h1) (by simpa using ew) ⟨rfl, fin⟩) hs
theorem ix_str : IxR X rIxS := by
  intro value slice pins s σ H x y v u Q I rx ry h hs
  obtain ⟨z, i, c, rfl, rfl, hz, he, q⟩ := h
  obtain ⟨t, rfl⟩ := rx
  obtain ⟨t', rfl⟩ := ry
  obtain ⟨j, h1, h2, h3, h4, h5⟩ := atI_get he
  have hl : z.cps.toList.length = z.length := by simp [Str.length]
  rw [hl] at h1 h4 h5
  have hn := line63
  exact tail_any (typeIs_str s z t) slot_str_getitem.lookup (getItem_str (c := c) (by
    have e1 : decide (i < -(2 ^ 63 : Int)) = false := decide_eq_false (by omega)
    have e2 : decide (i ≥ 2 ^ 63) = false := decide_eq_false (by omega)
    rw [e1, e2, Bool.or_false]) (by rw [h1]; simpa using h2) ⟨.str ⟨#[c]⟩, H, I.tok _, ⟨_, rfl⟩, q⟩) hs
/-- list, tuple or str -/
def rIx (K : PySem.W.Frag) : R2 := fun x y H Q => rIxL K x y H Q ∨ rIxT K x y H Q ∨ rIxS x y H Q
theorem ix_seq : IxR X (rIx X.K) := ix_list.or (ix_tup.or ix_str)

/-! ### xs[i] = v, any sign -/
/-- the list's object behind a store -/
theorem mapSeq_set (its : List Value) (n j : Nat) (u : Value) : Obj.mapSeq (·.setIfInBounds j u) { cls := .type "list", data := .seq its.toArray n } = { cls := .type "list", data := .seq (its.set j u).toArray n } := by
  simp [Obj.mapSeq]
theorem Inv.lst {pins : List (Addr × Obj)} {σ : St} {H : Hp} {s : Shared} {p : Addr} {xs : List V} (I : Inv X pins σ H s) (h : H p = some (.lst xs)) :
    ∃ (its : List Value) (n : Nat), Vals xs its ∧ s.heap.get? p = some { cls := .type "list", data := .seq its.toArray n } ∧ xs.length ≤ sizeLine := by
  obtain ⟨z, its, n, r, e⟩ := I.hok p _ h
  exact ⟨its, n, r, e, z⟩
/-- the list at p is written by an update of its object -/
theorem Inv.lstUpd {pins : List (Addr × Obj)} {σ : St} {H : Hp} {s : Shared} {p : Addr} {xs ys : List V} {its its' : List Value} {n n' : Nat} {f : Obj → Obj} (I : Inv X pins σ H s) (h : H p = some (.lst xs))
    (ho : s.heap.get? p = some { cls := .type "list", data := .seq its.toArray n }) (hf : f { cls := .type "list", data := .seq its.toArray n } = { cls := .type "list", data := .seq its'.toArray n' }) (r : Vals ys its') (hz : ys.length ≤ sizeLine) (t : Nat) :
    Inv X pins σ (upd H p (.lst ys)) { s with heap := s.heap.update p f, toks := t } := by
  have e : (s.heap.update p f).get? p = some { cls := .type "list", data := .seq its'.toArray n' } := by
    rw [Heap.get?_update_self f ho (by rw [hf] <;> rfl), hf]
  refine I.write (x := p) (e := p) (by rw [h]; trivial) (.inl rfl) (fun b u hb q => (Heap.get?_update_other _ _ (Ne.symm hb)).trans q) ⟨_, e⟩ ?_
  exact ⟨hz, its', n', r, e⟩
def rSetL : V → V → V → Hp → (Hp → Prop) → Prop := fun o i v H Q => ∃ p xs k j, o = .ref p ∧ i = .int k ∧ H p = some (.lst xs) ∧ ixN xs.length k = some j ∧ Q (upd H p (.lst (xs.set j v)))
theorem set_list : PSet X rSetL := by
  intro pins s σ H o i v ov iv u Q I ro ri rv h
  obtain ⟨p, xs, k, j, rfl, rfl, hp, hj, q⟩ := h
  cases ro
  obtain ⟨t, rfl⟩ := ri
  obtain ⟨its, n, r, ho, hz⟩ := I.lst hp
  obtain ⟨h1, h2, h3, h4⟩ := ixN_seq hj
  have hl := r.length
  have hn := line63
  have I' : Inv X pins σ (upd H p (.lst (xs.set j v))) { s with heap := s.heap.update p (Obj.mapSeq (·.setIfInBounds j u)) } :=
    I.lstUpd hp ho (mapSeq_set its n j u) (r.set rv j) (by rw [List.length_set]; exact hz) s.toks
  by_cases h0 : 0 ≤ k
  · have hk : k.toNat = j := by
      rw [seqIndex_of h0 h4] at h1
      exact Option.some.inj h1
    exact PySem.W.ki_setAt ho h0 (by omega) (by rw [List.size_toArray, ← hl]; exact h4) (by rw [hk]; exact ⟨_, I', q⟩)
  · have hk : (k + (its.toArray.size : Int)).toNat = j := by
      rw [seqIndex_neg (by omega) h3] at h1
      rw [List.size_toArray, ← hl]
      exact Option.some.inj h1
    exact PySem.W.ki_setBack ho (by omega) (by rw [List.size_toArray, ← hl]; exact h3) (by omega) (by rw [hk]; exact ⟨_, I', q⟩)

/-! ### slices -/
theorem slice_bounds (lo hi : Option Int) (n : Nat) : (sliceBounds lo hi none n).1 = ((HT.sIx n 0 lo : Nat) : Int) ∧ (sliceBounds lo hi none n).2.1 = ((HT.sIx n n hi : Nat) : Int) ∧ (sliceBounds lo hi none n).2.2 = 1 := by
  refine ⟨?_, ?_, rfl⟩
  · cases lo with
    | none => simp [sliceBounds, HT.sIx]
    | some i =>
      simp only [sliceBounds, HT.sIx, Option.getD_none, show (1 : Int) > 0 by decide, if_true]
      by_cases h : i < 0
      · simp only [h, if_true] <;> omega
      · simp only [h, if_false] <;> omega
  · cases hi with
    | none => simp [sliceBounds, HT.sIx]
    | some i =>
      simp only [sliceBounds, HT.sIx, Option.getD_none, show (1 : Int) > 0 by decide, if_true]
      by_cases h : i < 0
      · simp only [h, if_true] <;> omega
      · simp only [h, if_false] <;> omega
theorem slicePick_cut (its : List Value) (lo hi : Option Int) : slicePick its.toArray lo hi none = ((its.drop (HT.sIx its.length 0 lo)).take (HT.sIx its.length its.length hi - HT.sIx its.length 0 lo)).toArray := by
  obtain ⟨h1, h2, h3⟩ := slice_bounds lo hi its.toArray.size
  unfold slicePick
  rw [h1, h2, h3]
  simp only [sliceRange_one, pick_run, List.size_toArray] <;> rfl
/-- xs[lo:hi] of a list: a new list -/
def rSlL (K : PySem.W.Frag) : V → Option Int → Option Int → Hp → VK → Prop := fun x lo hi H Q => ∃ a xs, x = .ref a ∧ SqL K H a xs ∧ ∀ p, H p = none → Q (.ref p) (upd H p (.lst (cutV xs lo hi)))
theorem sl_list : SlR X (rSlL X.K) := by
  intro pins s σ H x v vl vu lo hi sl Q I rx hs pl pu h
  obtain ⟨a, xs, rfl, hx, q⟩ := h
  cases rx
  obtain ⟨its, r, ht, hz⟩ := I.list hx
  have hlen := r.length
  refine ⟨"list", _, slot_list_getitem.lookup, ht.isList.typeIs, ?_⟩
  refine wpAny_getItem_list_slice ht.isList hs pl pu .none (by simp) ?_ (by rw [List.size_toArray] <;> omega)
  rw [slicePick_cut, ← hlen]
  refine ⟨.ref s.heap.objs.size, _, I.laid (t' := s.toks) (o := .lst (cutV xs lo hi)) (fun b ob q => Heap.get?_push_of_some _ q) (Nat.le_refl _) ?_, rfl, q _ (I.hok.fresh (Nat.le_refl _))⟩
  exact ⟨Nat.le_trans (cutV_length xs lo hi) hz, _, 0, (r.drop (HT.sIx xs.length 0 lo)).take (HT.sIx xs.length xs.length hi - HT.sIx xs.length 0 lo), Heap.get?_push_size _ rfl⟩

/-! ### in, not in: flat items -/
def flatV : V → Bool
  | .non => true
  | .bl _ => true
  | .int _ => true
  | .str _ => true
  | _ => false
/-- == of flat values -/
def eqV : V → V → Bool
  | .non, .non => true
  | .bl a, .bl b => a == b
  | .bl a, .int b => (if a then 1 else 0) == b
  | .int a, .bl b => a == (if b then 1 else 0)
  | .int a, .int b => a == b
  | .str a, .str b => a == b
  | _, _ => false
theorem eqAt_V {A : Around} {s : Shared} {y x : V} {u v : Value} (ry : RelV y u) (rx : RelV x v) (fy : flatV y = true) (fx : flatV x = true) : SeqAt.EqAt A s u v (eqV y x) := by
  cases y with
  | non =>
    cases ry
    cases x with
    | non => cases rx; exact SeqAt.EqAt.same _
    | bl b => cases rx; exact SeqAt.EqAt.none_bool b
    | int b => obtain ⟨t, rfl⟩ := rx; exact SeqAt.EqAt.none_int b t
    | str b => obtain ⟨t, rfl⟩ := rx; exact SeqAt.EqAt.none_str b t
    | _ => exact absurd (show false = true from fx) Bool.false_ne_true
  | bl a =>
    cases ry
    cases x with
    | non => cases rx; exact SeqAt.EqAt.bool_none a
    | bl b => cases rx; exact SeqAt.EqAt.bool_bool a b
    | int b => obtain ⟨t, rfl⟩ := rx; exact SeqAt.EqAt.bool_int a b t
    | str b => obtain ⟨t, rfl⟩ := rx; exact SeqAt.EqAt.bool_str a b t
    | _ => exact absurd (show false = true from fx) Bool.false_ne_true
  | int a =>
    obtain ⟨t', rfl⟩ := ry
    cases x with
    | non => cases rx; exact SeqAt.EqAt.int_none a t'
    | bl b => cases rx; exact SeqAt.EqAt.int_bool a t' b
    | int b => obtain ⟨t, rfl⟩ := rx; exact SeqAt.EqAt.int_int a t' b t
    | str b => obtain ⟨t, rfl⟩ := rx; exact SeqAt.EqAt.int_str a t' b t
    | _ => exact absurd (show false = true from fx) Bool.false_ne_true
  | str a =>
    obtain ⟨t', rfl⟩ := ry
    cases x with
    | non => cases rx; exact SeqAt.EqAt.str_none a t'
    | bl b => cases rx; exact SeqAt.EqAt.str_bool a t' b
    | int b => obtain ⟨t, rfl⟩ := rx; exact SeqAt.EqAt.str_int a t' b t
    | str b => obtain ⟨t, rfl⟩ := rx; exact SeqAt.EqAt.str_str a t' b t
    | _ => exact absurd (show false = true from fx) Bool.false_ne_true
  | _ => exact absurd (show false = true from fy) Bool.false_ne_true
/-- the items' answers, read off the values (a value's own answer does not lean on its token) -/
def eqU (x : V) (u : Value) : Bool := match u with
  | .none => eqV .non x
  | .bool b => eqV (.bl b) x
  | .int i _ => eqV (.int i) x
  | .str z _ => eqV (.str z) x
  | _ => false
theorem eqU_of {x y : V} {u : Value} (r : RelV y u) (f : flatV y = true) : eqU x u = eqV y x := by
  cases y with
  | non => cases r; rfl
  | bl b => cases r; rfl
  | int i => obtain ⟨t, rfl⟩ := r; rfl
  | str z => obtain ⟨t, rfl⟩ := r; rfl
  | _ => exact absurd (show false = true from f) Bool.false_ne_true
theorem any_eqU {x : V} : ∀ {xs : List V} {us : List Value}, Vals xs us → xs.all flatV = true → us.any (eqU x) = xs.any fun y => eqV y x
  | _, _, .nil, _ => rfl
  | y :: xs, u :: us, .cons r t, f => by
    rw [List.all_cons, Bool.and_eq_true] at f
    rw [List.any_cons, List.any_cons, eqU_of r f.1, any_eqU t f.2]
theorem mem_eqAt {A : Around} {s : Shared} {x : V} {v : Value} (rx : RelV x v) (fx : flatV x = true) : ∀ {xs : List V} {us : List Value}, Vals xs us → xs.all flatV = true → ∀ u ∈ us, SeqAt.EqAt A s u v (eqU x u)
  | _, _, .nil, _ => fun u hu => by cases hu
  | y :: xs, u :: us, .cons r t, f => fun u' hu => by
    rw [List.all_cons, Bool.and_eq_true] at f
    rcases List.mem_cons.mp hu with rfl | hu
    · rw [eqU_of r f.1]; exact eqAt_V r rx f.1 fx
    · exact mem_eqAt rx fx t f.2 u' hu
def inV (x : V) (xs : List V) : Bool := xs.any fun y => eqV y x
/-- x in a list or tuple of flat items -/
def rIn (K : PySem.W.Frag) (neg : Bool) : R2 := fun x y H Q => ∃ p xs, y = .ref p ∧ (SqL K H p xs ∨ SqT K H p xs) ∧ flatV x = true ∧ xs.all flatV = true ∧ Q (.bl (if neg then !inV x xs else inV x xs)) H
theorem op_in_seq : OpR X (compareOp .In) (rIn X.K false) := by
  intro pins s σ H x y v u Q I rx ry h
  obtain ⟨p, xs, rfl, hq, fx, fs, q⟩ := h
  cases ry
  rcases hq with hq | hq
  · obtain ⟨its, r, pl, hz⟩ := I.list hq
    refine SeqAt.in_listAt (eqU x) pl.isList (fun w hw => mem_eqAt rx fx r fs w (by simpa using hw)) ⟨.bl _, H, I, rfl, ?_⟩
    rw [show its.toArray.any (eqU x) = its.any (eqU x) by simp, any_eqU r fs]
    exact q
  · obtain ⟨its, r, pl, hz⟩ := I.tuple hq
    refine SeqAt.in_tupleAt (eqU x) pl (fun w hw => mem_eqAt rx fx r fs w (by simpa using hw)) ⟨.bl _, H, I, rfl, ?_⟩
    rw [show its.toArray.any (eqU x) = its.any (eqU x) by simp, any_eqU r fs]
    exact q
theorem op_notIn_seq : OpR X (compareOp .NotIn) (rIn X.K true) := by
  intro pins s σ H x y v u Q I rx ry h
  obtain ⟨p, xs, rfl, hq, fx, fs, q⟩ := h
  cases ry
  rcases hq with hq | hq
  · obtain ⟨its, r, pl, hz⟩ := I.list hq
    refine SeqAt.notIn_listAt (eqU x) pl.isList (fun w hw => mem_eqAt rx fx r fs w (by simpa using hw)) ⟨.bl _, H, I, rfl, ?_⟩
    rw [show its.toArray.any (eqU x) = its.any (eqU x) by simp, any_eqU r fs]
    exact q
  · obtain ⟨its, r, pl, hz⟩ := I.tuple hq
    refine SeqAt.notIn_tupleAt (eqU x) pl (fun w hw => mem_eqAt rx fx r fs w (by simpa using hw)) ⟨.bl _, H, I, rfl, ?_⟩
    rw [show its.toArray.any (eqU x) = its.any (eqU x) by simp, any_eqU r fs]
    exact q
theorem op_notIn_str : OpR X (compareOp .NotIn) (fun x y H Q => ∃ i j, x = .str i ∧ y = .str j ∧ Q (.bl (!(!(Builtin.Str.occurrences j i 0 j.length 1).isEmpty))) H) := by
  intro pins s σ H x y v u Q I rx ry h
  obtain ⟨i, j, rfl, rfl, q⟩ := h
  obtain ⟨t, rfl⟩ := rx
  obtain ⟨t', rfl⟩ := ry
  exact notIn_str ⟨.bl _, H, I, rfl, q⟩

/-! ### len, list(x), tuple(x) of any list or tuple that is read -/
theorem call_len_seq : CallR X (.builtin "len") (fun xs H Q => ∃ p ys, xs = [.ref p] ∧ (SqL X.K H p ys ∨ SqT X.K H p ys) ∧ Q (.int ys.length) H) := by
  intro pins s σ H xs us Q I r h
  obtain ⟨p, ys, rfl, hq, q⟩ := h
  obtain ⟨u, rfl, rx⟩ := vals1 r
  cases rx
  have hn := line63
  rcases hq with hq | hq
  · obtain ⟨its, r', pl, hz⟩ := I.list hq
    have hlen := r'.length
    exact Calls.call_len_list pl.isList (by simp only [List.size_toArray] <;> omega) ⟨.int ys.length, H, I.tok _, ⟨s.toks + 1, by rw [List.size_toArray, hlen]⟩, q⟩
  · obtain ⟨its, r', pl, hz⟩ := I.tuple hq
    have hlen := r'.length
    exact len_tuple pl (by simp only [List.size_toArray] <;> omega) ⟨.int ys.length, H, I.tok _, ⟨s.toks + 1, by rw [List.size_toArray, hlen]⟩, q⟩
theorem call_len_str : CallR X (.builtin "len") (fun xs H Q => ∃ z, xs = [.str z] ∧ z.length ≤ sizeLine ∧ Q (.int z.length) H) := by
  intro pins s σ H xs us Q I r h
  obtain ⟨z, rfl, hz, q⟩ := h
  obtain ⟨u, rfl, t, rfl⟩ := vals1 r
  have hn := line63
  exact len_str (by omega) ⟨.int z.length, H, I.tok _, ⟨_, rfl⟩, q⟩
theorem CallR.or {f : Value} {r r' : List V → Hp → VK → Prop} (h : CallR X f r) (h' : CallR X f r') : CallR X f (fun xs H Q => r xs H Q ∨ r' xs H Q) := by
  intro pins s σ H xs us Q I rs q
  rcases q with q | q
  · exact h pins s σ H xs us Q I rs q
  · exact h' pins s σ H xs us Q I rs q
theorem call_list_of : CallR X (.type "list") (fun xs H Q => ∃ p ys, xs = [.ref p] ∧ (SqL X.K H p ys ∨ SqT X.K H p ys) ∧ ∀ l, H l = none → Q (.ref l) (upd H l (.lst ys))) := by
  intro pins s σ H xs us Q I r h
  obtain ⟨p, ys, rfl, hq, q⟩ := h
  obtain ⟨u, rfl, rx⟩ := vals1 r
  cases rx
  have fin : ∀ (its : List Value), Vals ys its → ys.length ≤ sizeLine → ∀ (h' : Heap) (c' : Nat), (∀ b o', s.heap.get? b = some o' → h'.get? b = some o') →
      h'.get? s.heap.objs.size = some { cls := .type "list", dict := none, data := .seq its.toArray c', slots := #[] } → EP X pins σ Q (.ref s.heap.objs.size) { s with heap := h' } := fun its r' hz h' c' kp e =>
    ⟨.ref s.heap.objs.size, _, I.laid (t' := s.toks) kp (Nat.le_refl _) (show ObjOk X.prog X.w _ h' _ (.lst ys) from ⟨hz, its, c', r', e⟩), rfl, q _ (I.hok.fresh (Nat.le_refl _))⟩
  rcases hq with hq | hq
  · obtain ⟨its, r', pl, hz⟩ := I.list hq
    have hlen := r'.length
    obtain ⟨o, ho, hc, n, hd⟩ := pl.isList
    exact call_list_seq p (.inl rfl) ho hc hd (fun h' c' kp e => fin its r' hz h' c' kp e) (by simp only [List.size_toArray] <;> omega)
  · obtain ⟨its, r', pl, hz⟩ := I.tuple hq
    have hlen := r'.length
    obtain ⟨o, ho, hc, n, hd⟩ := pl
    exact call_list_seq p (.inr rfl) ho hc hd (fun h' c' kp e => fin its r' hz h' c' kp e) (by simp only [List.size_toArray] <;> omega)
theorem call_tuple_of : CallR X (.type "tuple") (fun xs H Q => ∃ p ys, xs = [.ref p] ∧ ((SqL X.K H p ys ∧ ∀ l, H l = none → Q (.ref l) (upd H l (.tup ys))) ∨ (SqT X.K H p ys ∧ Q (.ref p) H))) := by
  intro pins s σ H xs us Q I r h
  obtain ⟨p, ys, rfl, h⟩ := h
  obtain ⟨u, rfl, rx⟩ := vals1 r
  cases rx
  rcases h with ⟨hq, q⟩ | ⟨hq, q⟩
  · obtain ⟨its, r', pl, hz⟩ := I.list hq
    have hlen := r'.length
    refine call_tuple_list pl.isList (fun h' kp => ?_) (by simp only [List.size_toArray] <;> omega)
    have I1 : Inv X pins σ H { s with heap := h' } := I.kept (t' := s.toks) kp
    have I2 : Inv X pins σ (upd H h'.objs.size (.tup ys)) { s with heap := h'.push { cls := .type "tuple", data := .seq its.toArray } } :=
      I1.laid (t' := s.toks) (fun b o e => Heap.get?_push_of_some _ e) (Nat.le_refl _) (show ObjOk X.prog X.w _ _ _ (.tup ys) from ⟨hz, its, r', IsTup.new _ _⟩)
    exact ⟨.ref h'.objs.size, _, I2, rfl, q _ (I1.hok.fresh (Nat.le_refl _))⟩
  · obtain ⟨its, r', pl, hz⟩ := I.tuple hq
    exact call_tuple_same pl ⟨.ref p, H, I, rfl, q⟩

/-! ### the call of a builtin's method: o.m(..) -/
/-- the value is of that builtin type -/
def tyV (K : PySem.W.Frag) (T : String) (x : V) (H : Hp) : Prop := match x with
  | .str _ => T = "str"
  | .int _ => T = "int"
  | .ref p => (T = "list" ∧ ∃ xs, SqL K H p xs) ∨ (T = "tuple" ∧ ∃ o, K.lookup p = some o ∧ o.cls = .type "tuple" ∧ o.dict = none) ∨
      (T = "dict" ∧ ((∃ kvs, H p = some (.dK kvs)) ∨ ∃ kvs, H p = some (.dT kvs))) ∨ (T = "set" ∧ ∃ S n, H p = some (.set S n))
  | _ => False
theorem tyV_is {pins : List (Addr × Obj)} {σ : St} {H : Hp} {s : Shared} {T : String} {x : V} {v : Value} (I : Inv X pins σ H s) (r : RelV x v) (ty : tyV X.K T x H) :
    s.TypeIs v T ∧ ∀ a, v = .ref a → ∃ ob, s.heap.get? a = some ob ∧ ob.dict = none := by
  cases x with
  | str z =>
    obtain ⟨t, rfl⟩ := r
    cases (show T = "str" from ty)
    exact ⟨typeIs_str s z t, fun _ e => nomatch e⟩
  | int i =>
    obtain ⟨t, rfl⟩ := r
    cases (show T = "int" from ty)
    exact ⟨typeIs_int s i t, fun _ e => nomatch e⟩
  | ref p =>
    cases r
    rcases ty with ⟨rfl, xs, hq⟩ | ⟨rfl, o, hk, hc, hd⟩ | ⟨rfl, hk⟩ | ⟨rfl, S, n, hk⟩
    · obtain ⟨its, _, pl, _⟩ := I.list hq
      refine ⟨pl.isList.typeIs, fun a e => ?_⟩
      cases e
      obtain ⟨o, n, e, c, hd, _⟩ := pl
      exact ⟨o, e, hd⟩
    · refine ⟨⟨o, I.kIn p o hk, hc⟩, fun a e => ?_⟩
      cases e
      exact ⟨o, I.kIn _ o hk, hd⟩
    · have z : ∃ o, s.heap.get? p = some o ∧ o.ExactDict := by
        rcases hk with ⟨kvs, hk⟩ | ⟨kvs, hk⟩
        · obtain ⟨_, _, _, _, o, _, _, e, ex, _⟩ := I.hok p _ hk
          exact ⟨o, e, ex⟩
        · obtain ⟨_, _, _, _, o, _, _, e, ex, _⟩ := I.hok p _ hk
          exact ⟨o, e, ex⟩
      obtain ⟨o, e, ex⟩ := z
      refine ⟨⟨o, e, ex.1⟩, fun a e2 => ?_⟩
      cases e2
      exact ⟨o, e, ex.2.1⟩
    · obtain ⟨o, _, _, _, e, ex, _⟩ := I.hok p _ hk
      refine ⟨⟨o, e, ex.1⟩, fun a e2 => ?_⟩
      cases e2
      exact ⟨o, e, ex.2.1⟩
  | _ => exact False.elim ty
def tBM0 (K : PySem.W.Frag) (T : String) (r : V → List V → Hp → VK → Prop) (to : TE) : TE := fun σ H Q => to σ H fun x H1 => tyV K T x H1 ∧ r x [] H1 Q
def tBM (K : PySem.W.Frag) (T : String) (r : V → List V → Hp → VK → Prop) (to : TE) (t : TA) : TE := fun σ H Q => to σ H fun x H1 => tyV K T x H1 ∧ t σ H1 fun xs H2 => r x xs H2 Q
variable {o e : Expr} {es : List Expr} {to : TE} {t : TA} {name : Str} {apos cpos : Pos} {T id : String} {r : V → List V → Hp → VK → Prop}
theorem pe_bm0 (pa : PlainAttrs T) (slot : Slot T name id) (hty : typeOf (.builtin id) = pure (.type "method_descriptor")) (hm : MtR X id r) (ho : PE X o to)
    (hbase : attributeBase o name X.env (eval o X.env) = eval o X.env := by rfl) (hline : (apos.endLine == cpos.line) = true := by rfl) : PE X (.Call (.Attribute o name apos) [] [] cpos) (tBM0 X.K T r to) := by
  intro pins s σ H Q I h
  refine wpAny_Call_method0_late hbase hline (thn (ho pins s σ H _ I h) fun v s1 ⟨x, H1, I1, r1, ty, q1⟩ => ?_)
  obtain ⟨h1, h2⟩ := tyV_is I1 r1 ty
  exact ⟨T, id, pa, slot, hty, h1, h2, Calls.callWith_builtin rfl (PySem.evalArgs_none (hm pins s1 σ H1 x [] v [] Q I1 r1 .nil q1))⟩
theorem pe_bm (pa : PlainAttrs T) (slot : Slot T name id) (hty : typeOf (.builtin id) = pure (.type "method_descriptor")) (hm : MtR X id r) (ho : PE X o to) (ha : PA X (e :: es) t)
    (hbase : attributeBase o name X.env (eval o X.env) = eval o X.env := by rfl)
    (hfew : ((backTo cpos (starEach (e :: es) X.env)).all (fun x => !x.1) && (backToKw cpos (keywordEach [] X.env)).all (fun x => x.1.isSome)
      && decide ((e :: es).length + ([] : List Keyword).length + (if ([] : List Keyword).isEmpty then 0 else 1) < 30)) = true := by rfl)
    (hline : (apos.endLine == cpos.line) = true := by rfl) (hs : starEach (e :: es) X.env = (false, eval e X.env) :: starEach es X.env := by rfl) (hplain : (backTo cpos (starEach es X.env)).any (·.1) = false := by rfl) :
    PE X (.Call (.Attribute o name apos) (e :: es) [] cpos) (tBM X.K T r to t) := by
  intro pins s σ H Q I h
  refine wpAny_Call_method_late hbase hfew hline rfl (thn (ho pins s σ H _ I h) fun v s1 ⟨x, H1, I1, r1, ty, q1⟩ => ?_)
  obtain ⟨h1, h2⟩ := tyV_is I1 r1 ty
  refine ⟨T, id, pa, slot, hty, h1, h2, ?_⟩
  have hA := ha cpos pins s1 σ H1 _ I1 q1
  rw [hs] at hA ⊢
  refine Calls.callWith_builtin (by show (false || (backTo cpos (starEach es X.env)).any (·.1)) = false; rw [hplain] <;> rfl) (Calls.evalArgs_plain ?_)
  exact thn hA fun us s2 ⟨vs, H2, I2, r2, q2⟩ => hm pins s2 σ H2 x vs v us Q I2 r1 r2 q2
/- xs.append(e), list.index on a module's tuple .. are MtR facts of 06m -/
end
end L2

namespace L2
open PySem PySem.Spec PyProof.Rows

def MtM (X : Cx) (id : String) (r : V → List V → Hp → VK → Prop) : Prop :=
  ∀ (pins : List (Addr × Obj)) (s : Shared) (σ : St) (H : Hp) (x : V) (xs : List V) (v : Value) (us : List Value) (Q : VK), Inv X pins σ H s → RelV x v → Vals xs us → r x xs H Q →
    wpAny (model X.prog X.w) X.A (call (.builtin id) (v :: us)) (EP X pins σ Q) X.xe s

/-! ### lists of values -/
theorem Vals.one : ∀ {x : V} {us : List Value}, Vals [x] us → ∃ u, us = [u] ∧ RelV x u
  | _, _, .cons r .nil => ⟨_, rfl, r⟩
theorem Vals.two : ∀ {x y : V} {us : List Value}, Vals [x, y] us → ∃ u v, us = [u, v] ∧ RelV x u ∧ RelV y v
  | _, _, _, .cons r (.cons q .nil) => ⟨_, _, rfl, r, q⟩
theorem Vals.zero : ∀ {us : List Value}, Vals [] us → us = []
  | _, .nil => rfl
theorem Vals.dropLast {xs : List V} {us : List Value} (h : Vals xs us) : Vals xs.dropLast us.dropLast := by
  induction h with
  | nil => exact .nil
  | cons r t ih =>
    cases t with
    | nil => exact .nil
    | cons q t' => exact .cons r ih
theorem Vals.eraseIdx : ∀ {xs : List V} {us : List Value} (i : Nat), Vals xs us → Vals (xs.eraseIdx i) (us.eraseIdx i)
  | _, _, _, .nil => .nil
  | _, _, 0, .cons _ t => t
  | _, _, i + 1, .cons r t => .cons r (Vals.eraseIdx i t)
theorem Vals.reverse {xs : List V} {us : List Value} (h : Vals xs us) : Vals xs.reverse us.reverse := by
  induction h with
  | nil => exact .nil
  | cons r t ih => rw [List.reverse_cons, List.reverse_cons]; exact Vals.append ih (.cons r .nil)
theorem Vals.rep {xs : List V} {us : List Value} (h : Vals xs us) : ∀ k : Nat, Vals (List.replicate k xs).flatten (List.replicate k us).flatten
  | 0 => .nil
  | k + 1 => by
    rw [List.replicate_succ, List.replicate_succ, List.flatten_cons, List.flatten_cons]
    exact Vals.append h (Vals.rep h k)
theorem erase_last {α : Type} (l : List α) : l.eraseIdx (l.length - 1) = l.dropLast := by
  induction l with
  | nil => rfl
  | cons a r ih =>
    cases r with
    | nil => rfl
    | cons b r =>
      have e : (a :: b :: r).length - 1 = ((b :: r).length - 1) + 1 := by
        have h1 : (a :: b :: r).length = r.length + 2 := rfl
        have h2 : (b :: r).length = r.length + 1 := rfl
        omega
      rw [e, List.eraseIdx_cons_succ, ih]
      all_goals rfl
theorem len_erase {α : Type} : ∀ (l : List α) (i : Nat), (l.eraseIdx i).length ≤ l.length
  | [], _ => Nat.le_refl _
  | _ :: _, 0 => Nat.le_succ _
  | _ :: r, i + 1 => Nat.succ_le_succ (len_erase r i)
theorem foldl_rep (its : List Value) : ∀ (k : Nat) (acc : List Value),
    List.foldl (fun x1 x2 => x1 ++ x2) acc.toArray (List.replicate k its.toArray) = (acc ++ (List.replicate k its).flatten).toArray
  | 0, acc => by simp
  | k + 1, acc => by
    have e : acc.toArray ++ its.toArray = (acc ++ its).toArray := by simp
    have e2 : (acc ++ its) ++ (List.replicate k its).flatten = acc ++ (List.replicate (k + 1) its).flatten := by
      rw [List.replicate_succ, List.flatten_cons, List.append_assoc]
    rw [← e2, ← foldl_rep its k (acc ++ its), ← e, List.replicate_succ, List.foldl_cons]

section
variable {X : Cx} {pins : List (Addr × Obj)} {σ : St} {H : Hp} {s : Shared} {l b : Addr} {xs ys zs : List V}

/-! ### the two steps: a tracked list is rewritten, a new list is laid -/
theorem Inv.lset {its its' : List Value} {n : Nat} {f : Array Value → Array Value} {t' : Nat} (I : Inv X pins σ H s) (hH : H l = some (.lst xs))
    (e : s.heap.get? l = some { cls := .type "list", data := .seq its.toArray n }) (hf : f its.toArray = its'.toArray) (hv : Vals ys its') (hz : ys.length ≤ sizeLine) :
    Inv X pins σ (upd H l (.lst ys)) { s with heap := s.heap.update l (Obj.mapSeq f), toks := t' } := by
  have q := PySem.IsL.update e f
  rw [hf] at q
  refine I.write (x := l) (e := l) (by rw [hH]; exact trivial) (.inl rfl) (fun b' u hb hu => (Heap.get?_update_other s.heap (Obj.mapSeq f) (Ne.symm hb)).trans hu) ⟨_, q⟩ ?_
  exact ⟨hz, its', _, hv, q⟩
theorem Inv.lnew {its : List Value} {t' : Nat} (I : Inv X pins σ H s) (hv : Vals ys its) (hz : ys.length ≤ sizeLine) :
    Inv X pins σ (upd H s.heap.objs.size (.lst ys)) { s with heap := s.heap.push { cls := .type "list", data := .seq its.toArray }, toks := t' } :=
  I.laid (fun _ _ q => Heap.get?_push_of_some _ q) (Nat.le_refl _) ⟨hz, its, 0, hv, Heap.get?_push_size _ rfl⟩
theorem Inv.fresh (I : Inv X pins σ H s) : H s.heap.objs.size = none := I.hok.fresh (Nat.le_refl _)
theorem Inv.lstM (I : Inv X pins σ H s) (hH : H l = some (.lst xs)) : xs.length ≤ sizeLine ∧ ∃ (its : List Value) (n : Nat), Vals xs its ∧ xs.length = its.length ∧ s.heap.get? l = some { cls := .type "list", data := .seq its.toArray n } := by
  obtain ⟨z, its, n, r, e⟩ := I.hok l _ hH
  exact ⟨z, its, n, r, r.length, e⟩

theorem notLongL {n : Nat} (h : n ≤ sizeLine) : Builtin.List.listTooLong n = false := by
  unfold Builtin.List.listTooLong
  exact decide_eq_false (by omega)
end

section
variable {X : Cx}

/-! ### methods -/
def rAppend : V → List V → Hp → VK → Prop := fun x vs H Q => ∃ l xs y, x = .ref l ∧ vs = [y] ∧ H l = some (.lst xs) ∧ xs.length < sizeLine ∧ Q .non (upd H l (.lst (xs ++ [y])))
theorem mt_append : MtM X "list.append" rAppend := by
  intro pins s σ H x vs v us Q I rx rv h
  obtain ⟨l, xs, y, rfl, rfl, hH, hz, q⟩ := h
  cases rx
  obtain ⟨u, rfl, ru⟩ := rv.one
  obtain ⟨z, its, n, r, hl, e⟩ := I.lstM hH
  refine call_meets F.slot_list_append ⟨_, e, rfl⟩ F.entry_list_append (F.args_list_append_2 _ _) (PySem.list_append l its.toArray n u (by rw [List.size_toArray]; omega)) ⟨e, ?_⟩
  refine ⟨.non, _, I.lset (its' := its ++ [u]) hH e (by simp) (r.append (.cons ru .nil)) ?_, rfl, q⟩
  rw [List.length_append, List.length_singleton]
  omega

def rExtend : V → List V → Hp → VK → Prop := fun x vs H Q => ∃ l b xs zs, x = .ref l ∧ vs = [.ref b] ∧ H l = some (.lst xs) ∧ H b = some (.lst zs) ∧ xs.length + zs.length ≤ sizeLine ∧ Q .non (upd H l (.lst (xs ++ zs)))
theorem mt_extend : MtM X "list.extend" rExtend := by
  intro pins s σ H x vs v us Q I rx rv h
  obtain ⟨l, b, xs, zs, rfl, rfl, hH, hB, hz, q⟩ := h
  cases rx
  obtain ⟨u, rfl, ru⟩ := rv.one
  cases ru
  obtain ⟨z, its, n, r, hl, e⟩ := I.lstM hH
  obtain ⟨z2, its2, n2, r2, hl2, e2⟩ := I.lstM hB
  have hsz : its.toArray.size + its2.toArray.size ≤ sizeLine := by rw [List.size_toArray, List.size_toArray]; omega
  have hlong : ¬ (!its.toArray.isEmpty && Builtin.List.listTooLong (its.toArray.size + its2.toArray.size)) = true := by
    rw [notLongL hsz, Bool.and_false]
    exact Bool.false_ne_true
  refine call_meets F.slot_list_extend ⟨_, e, rfl⟩ F.entry_list_extend (F.args_list_extend_2 _ _)
    (AutoSeq1.list_extend_list_list_0 l its.toArray n b its2.toArray n2 hlong (by rw [List.size_toArray]; omega) (by omega)) ⟨e, e2, ?_⟩
  refine ⟨.non, _, I.lset (its' := its ++ its2) hH e (by simp) (r.append r2) ?_, rfl, q⟩
  rw [List.length_append]
  omega

def rPop : V → List V → Hp → VK → Prop := fun x vs H Q => ∃ l xs y, x = .ref l ∧ vs = [] ∧ H l = some (.lst xs) ∧ xs[xs.length - 1]? = some y ∧ Q y (upd H l (.lst xs.dropLast))
theorem mt_pop : MtM X "list.pop" rPop := by
  intro pins s σ H x vs v us Q I rx rv h
  obtain ⟨l, xs, y, rfl, rfl, hH, hy, q⟩ := h
  cases rx
  have hus := rv.zero
  subst hus
  obtain ⟨z, its, n, r, hl, e⟩ := I.lstM hH
  obtain ⟨u, hu, ru⟩ := r.get hy
  have hy' : its.toArray[its.toArray.size - 1]? = some u := by
    show its.toArray[its.length - 1]? = some u
    rw [← Array.getElem?_toList, ← hl]
    exact hu
  refine call_meets F.slot_list_pop ⟨_, e, rfl⟩ F.entry_list_pop (F.args_list_pop_1 _) (MeetsSeq.list_pop_last l its.toArray n u hy' (by rw [List.size_toArray]; omega)) ⟨e, ?_⟩
  refine ⟨y, _, I.lset (its' := its.dropLast) hH e ?_ r.dropLast ?_, ru, q⟩
  · show its.toArray.eraseIdxIfInBounds (its.toArray.size - 1) = its.dropLast.toArray
    rw [List.size_toArray, List.eraseIdxIfInBounds_toArray, erase_last]
  · rw [List.length_dropLast]
    omega

def rPopAt : V → List V → Hp → VK → Prop := fun x vs H Q => ∃ l xs i k y, x = .ref l ∧ vs = [.int i] ∧ H l = some (.lst xs) ∧ -(2 ^ 63) ≤ i ∧ i < 2 ^ 63 ∧ seqIndex? i xs.length = some k ∧ xs[k]? = some y ∧ Q y (upd H l (.lst (xs.eraseIdx k)))
theorem mt_popAt : MtM X "list.pop" rPopAt := by
  intro pins s σ H x vs v us Q I rx rv h
  obtain ⟨l, xs, i, k, y, rfl, rfl, hH, h1, h2, hk, hy, q⟩ := h
  cases rx
  obtain ⟨u, rfl, ru⟩ := rv.one
  obtain ⟨t, rfl⟩ := ru
  obtain ⟨z, its, n, r, hl, e⟩ := I.lstM hH
  obtain ⟨w, hw, rw'⟩ := r.get hy
  refine call_meets F.slot_list_pop ⟨_, e, rfl⟩ F.entry_list_pop (F.args_list_pop_2 _ _)
    (MeetsSeq.list_pop_at l its.toArray n i t k w (fitsIndex_both h1 h2) (by rw [List.size_toArray, ← hl]; exact hk) (by rw [← Array.getElem?_toList]; exact hw) (by rw [List.size_toArray]; omega)) ⟨e, ?_⟩
  refine ⟨y, _, I.lset (its' := its.eraseIdx k) hH e ?_ (r.eraseIdx k) ?_, rw', q⟩
  · show its.toArray.eraseIdxIfInBounds k = (its.eraseIdx k).toArray
    rw [List.eraseIdxIfInBounds_toArray]
  · have := len_erase xs k
    omega

def rReverse : V → List V → Hp → VK → Prop := fun x vs H Q => ∃ l xs, x = .ref l ∧ vs = [] ∧ H l = some (.lst xs) ∧ Q .non (upd H l (.lst xs.reverse))
theorem mt_reverse : MtM X "list.reverse" rReverse := by
  intro pins s σ H x vs v us Q I rx rv h
  obtain ⟨l, xs, rfl, rfl, hH, q⟩ := h
  cases rx
  have hus := rv.zero
  subst hus
  obtain ⟨z, its, n, r, hl, e⟩ := I.lstM hH
  refine call_meets F.slot_list_reverse ⟨_, e, rfl⟩ F.entry_list_reverse (F.args_list_reverse_1 _) (AutoSeq1.list_reverse_list_0 l its.toArray n (by rw [List.size_toArray]; omega)) ⟨e, ?_⟩
  refine ⟨.non, _, I.lset (its' := its.reverse) hH e (by simp) r.reverse ?_, rfl, q⟩
  rw [List.length_reverse]
  omega

def rClear : V → List V → Hp → VK → Prop := fun x vs H Q => ∃ l xs, x = .ref l ∧ vs = [] ∧ H l = some (.lst xs) ∧ Q .non (upd H l (.lst []))
theorem mt_clear : MtM X "list.clear" rClear := by
  intro pins s σ H x vs v us Q I rx rv h
  obtain ⟨l, xs, rfl, rfl, hH, q⟩ := h
  cases rx
  have hus := rv.zero
  subst hus
  obtain ⟨z, its, n, r, hl, e⟩ := I.lstM hH
  refine call_meets F.slot_list_clear ⟨_, e, rfl⟩ F.entry_list_clear (F.args_list_clear_1 _) (AutoSeq1.list_clear_list_0 l its.toArray n (by rw [List.size_toArray]; omega)) ⟨e, ?_⟩
  exact ⟨.non, _, I.lset (its' := []) (ys := []) hH e rfl .nil (Nat.zero_le _), rfl, q⟩

/-! ### list + list, list += list, list * int -/
def rCat : R2 := fun x y H Q => ∃ l b xs zs, x = .ref l ∧ y = .ref b ∧ H l = some (.lst xs) ∧ H b = some (.lst zs) ∧ xs.length + zs.length ≤ sizeLine ∧ ∀ p, H p = none → Q (.ref p) (upd H p (.lst (xs ++ zs)))
theorem op_cat : OpR X (binaryOp .Add) rCat := by
  intro pins s σ H x y v u Q I rx ry h
  obtain ⟨l, b, xs, zs, rfl, rfl, hH, hB, hz, q⟩ := h
  cases rx
  cases ry
  obtain ⟨z, its, n, r, hl, e⟩ := I.lstM hH
  obtain ⟨z2, its2, n2, r2, hl2, e2⟩ := I.lstM hB
  refine PySem.P.add_list e e2 ?_ (by rw [List.size_toArray, List.size_toArray]; omega)
  have ea : its.toArray ++ its2.toArray = (its ++ its2).toArray := by simp
  rw [ea]
  exact ⟨.ref _, _, I.lnew (t' := s.toks) (r.append r2) (by rw [List.length_append]; omega), rfl, q _ I.fresh⟩
/-- a list times an int (a negative one is nothing) -/
def rRep : R2 := fun x y H Q => ∃ l k xs, x = .ref l ∧ y = .int k ∧ H l = some (.lst xs) ∧ -(2 ^ 63) ≤ k ∧ k < 2 ^ 63 ∧ xs.length * k.toNat ≤ sizeLine ∧
  ∀ p, H p = none → Q (.ref p) (upd H p (.lst (List.replicate k.toNat xs).flatten))
theorem len_rep {α : Type} (xs : List α) (k : Nat) : (List.replicate k xs).flatten.length = k * xs.length := by
  induction k with
  | zero => simp
  | succ k ih => rw [List.replicate_succ, List.flatten_cons, List.length_append, ih, Nat.succ_mul, Nat.add_comm]
theorem op_rep : OpR X (binaryOp .Mult) rRep := by
  intro pins s σ H x y v u Q I rx ry h
  obtain ⟨l, k, xs, rfl, rfl, hH, h1, h2, hz, q⟩ := h
  cases rx
  obtain ⟨t, rfl⟩ := ry
  obtain ⟨z, its, n, r, hl, e⟩ := I.lstM hH
  have hlen : its.toArray.size * k.toNat ≤ sizeLine := by rw [List.size_toArray, ← hl]; exact hz
  have hcap : ¬ its.toArray.size * k.toNat > (2 ^ 63 - 1) / 8 := by
    have : (sizeLine : Nat) ≤ (2 ^ 63 - 1) / 8 := by decide
    omega
  have hfit : ¬ (!Builtin.List.listFitsIndex k) = true := by
    rw [fitsIndex_both h1 h2]
    exact Bool.false_ne_true
  have hlong : ¬ Builtin.List.listTooLong (its.toArray.size * k.toNat) = true := by
    rw [notLongL hlen]
    exact Bool.false_ne_true
  have hnew : List.foldl (fun x1 x2 => x1 ++ x2) #[] (List.replicate (if its.toArray.isEmpty = true then 0 else k.toNat) its.toArray) = (List.replicate k.toNat its).flatten.toArray := by
    have f0 : ∀ m : Nat, List.foldl (fun x1 x2 => x1 ++ x2) #[] (List.replicate m its.toArray) = (List.replicate m its).flatten.toArray := fun m => by
      have := foldl_rep its m []
      rw [List.nil_append] at this
      exact this
    rw [f0]
    cases its with
    | nil => simp
    | cons a r' => rw [if_neg (by simp)]
  refine wpAny_binaryOp_repeat_ref (T := "list") (U := "int") (by decide) ⟨_, e, rfl⟩ (fun s' => typeIs_int s' k t) noFill_list_mul F.fills_int_mul F.slot_int_rmul repeat_list F.slot_int_index.lookup
    (call_meets F.slot_int_rmul (typeIs_int s k t) F.entry_int_rmul (F.args_int_rmul_2 _ _) (int___rmul___int_list k t l its.toArray n)
      ⟨e, rfl, ⟨_, e, rfl⟩, call_meets F.slot_list_mul ⟨_, e, rfl⟩ F.entry_list_mul (F.args_list_mul_2 _ _) (AutoListH.list___mul___list_int_3 l its.toArray n k t hfit hcap hlong) ⟨e, ?_⟩⟩)
  rw [hnew]
  exact ⟨.ref _, _, I.lnew (t' := s.toks) (r.rep k.toNat) (by rw [len_rep, Nat.mul_comm]; exact hz), rfl, q _ I.fresh⟩

/-! ### del xs[i] -/
theorem del_list {pins : List (Addr × Obj)} {s : Shared} {σ : St} {H : Hp} {l : Addr} {xs : List V} {i : Int} {t : Tok} {k : Nat} {Q : Unit → Shared → Prop} (I : Inv X pins σ H s) (hH : H l = some (.lst xs))
    (h1 : -(2 ^ 63) ≤ i) (h2 : i < 2 ^ 63) (hk : seqIndex? i xs.length = some k) (h : ∀ s', Inv X pins σ (upd H l (.lst (xs.eraseIdx k))) s' → Q () s') :
    wpAny (model X.prog X.w) X.A (delItem (.ref l) (.int i t)) Q X.xe s := by
  obtain ⟨z, its, n, r, hl, e⟩ := I.lstM hH
  refine PySem.P.delItem_list (k := k) e (fitsIndex_both h1 h2) (by rw [List.size_toArray, ← hl]; exact hk) (h _ ?_) (by rw [List.size_toArray]; omega)
  refine I.lset (its' := its.eraseIdx k) (t' := s.toks) hH e ?_ (r.eraseIdx k) ?_
  · show its.toArray.eraseIdxIfInBounds k = (its.eraseIdx k).toArray
    rw [List.eraseIdxIfInBounds_toArray]
  · have := len_erase xs k
    omega
end

/-! ### xs[a:b] = ys -/
section
variable {prog : Program} {w : World} {A : Around} {E : Value → Shared → Prop} {s : Shared}
theorem splice_eq (its its2 : List Value) (a c : Nat) : its.toArray.extract 0 a ++ its2.toArray ++ its.toArray.extract c its.toArray.size = (its.take a ++ its2 ++ its.drop c).toArray := by
  apply Array.toList_inj.mp
  first
    | (simp
       exact List.take_of_length_le (by simp))
    | simp [List.take_of_length_le]
    | simp
theorem bounds_run {a c n : Nat} (hac : a ≤ c) (hc : c ≤ n) : sliceBounds (some (a : Int)) (some (c : Int)) none n = ((a : Int), (c : Int), 1) := by
  simp only [sliceBounds, Option.getD_none]
  have h1 : ¬ ((a : Int) < 0) := by omega
  have h2 : ¬ ((c : Int) < 0) := by omega
  simp only [h1, h2, if_false, show (1 : Int) > 0 by decide, if_true]
  congr 1
  · omega
  · congr 1; omega
set_option maxRecDepth 100000 in
/-- list.__setitem__ with a slice of step one and another list -/
theorem setItem_slice {l b sl : Addr} {items new : Array Value} {n n2 : Nat} {vl vu : Value} {a c : Nat} {Q : Unit → Shared → Prop}
    (e : s.heap.get? l = some { cls := .type "list", data := .seq items n }) (e2 : s.heap.get? b = some { cls := .type "list", data := .seq new n2 }) (hne : l ≠ b)
    (hs : s.heap.IsSliceOf sl vl vu .none) (pl : IsPart vl (some (a : Int))) (pu : IsPart vu (some (c : Int))) (hac : a ≤ c) (hc : c ≤ items.size)
    (hsz : items.size + new.size ≤ sizeLine) (h : Q () { s with heap := s.heap.update l (Obj.mapSeq fun xs => xs.extract 0 a ++ new ++ xs.extract c xs.size) }) :
    wpAny (model prog w) A (setItem (.ref l) (.ref sl) (.ref b)) Q E s := by
  have hl : s.heap.IsList l items := PySem.IsL.isList e
  have hb : s.heap.IsList b new := PySem.IsL.isList e2
  obtain ⟨os, hos, hcs, hds⟩ := id hs
  have hTs : s.TypeIs (.ref sl) "slice" := ⟨os, hos, hcs⟩
  have hstep : ¬ ((rawPart none == rawInt 0) = true) := Bool.false_ne_true
  have hsame : Builtin.List.listSameRef (.ref l) (.ref b) = false := by
    unfold Builtin.List.listSameRef
    exact beq_eq_false_iff_ne.mpr hne
  have hmax : (max (a : Int) (c : Int)).toNat = c := by omega
  have hz' : ((fun xs : Array Value => xs.extract 0 a ++ new ++ xs.extract c xs.size) items).size ≤ sizeLine + 1 := by
    simp only [Array.size_append, Array.size_extract]
    omega
  unfold setItem
  try with_reducible refine wpAny_holding ?_
  first | refine wpAny_bind (wpAny_pure ?_) | skip
  refine wpAny_bind (wpAny_sequenceKey hl.typeIs (by decide) ?_)
  refine wpAny_bind (wpAny_callSpecial?_slot (name := Str.ofString "__setitem__") hl.typeIs slot_list_setitem
    (wpAny_call_entry slot_list_setitem hl.typeIs entry_list_setitem ?_ (args_list_setitem _ _ _)))
  show wpAny _ _ (Builtin.List.listSubscript? (.ref sl) >>= _) _ _ s
  refine wpAny_bind ?_
  unfold Builtin.List.listSubscript?
  refine wpAny_bind (wpAny_specialOf hTs slice_no_index ?_)
  simp only [Option.isNone_none, if_true]
  refine wpAny_pure ?_
  show wpAny _ _ (typeOf (.ref sl) >>= _) _ _ s
  refine wpAny_bind (wpAny_typeOf hTs ?_)
  first
    | rw [if_neg (by decide)]
    | refine PySem.W.KFB.if_not (by decide) ?_
  rw [listSliceParts_eq]
  refine wpAny_bind (wpAny_bind (wpAny_field hos hds (x := .none) rfl (wpAny_bind (wpAny_listPart .none ?_))))
  rw [if_neg hstep]
  refine wpAny_bind (wpAny_field hos hds (x := vl) rfl (wpAny_bind (wpAny_listPart pl ?_)))
  refine wpAny_bind (wpAny_field hos hds (x := vu) rfl (wpAny_bind (wpAny_listPart pu (wpAny_pure ?_))))
  first
    | simp only [hsame, Bool.false_eq_true, if_false]
    | refine PySem.W.KFB.if_not hsame ?_
    | (dsimp only
       rw [if_neg (by rw [hsame]; exact Bool.false_ne_true)])
  refine wpAny_bind (m := Builtin.List.listAllItems (.ref b) "must assign iterable to extended slice") ?_
  unfold Builtin.List.listAllItems
  refine wpAny_bind (wpAny_typeOf hb.typeIs ?_)
  first
    | refine PySem.W.KFB.if_so (by decide) ?_
    | rw [if_pos (by decide)]
    | simp only [beq_self_eq_true, Bool.true_or, if_true]
  unfold Builtin.List.listItems
  refine wpAny_bind (wpAny_seqItems e2 rfl (wpAny_pure ?_))
  refine wpAny_bind (wpAny_bind (wpAny_seqItems e rfl (wpAny_pure ?_)))
  refine wpAny_bind (wpAny_of_eq ((sliceIndices_raw (some (a : Int)) (some (c : Int)) none items.size (by simp)).trans (congrArg (pure : Int × Int × Int → Sem (Int × Int × Int)) (bounds_run hac hc))) ?_)
  show wpAny _ _ (if ((1 : Int) == 1) = true then _ else _) _ _ s
  rw [if_pos (by decide)]
  refine wpAny_bind (wpAny_rule ?_)
  first
    | simp only [notLongL hsz, Bool.false_eq_true, if_false]
    | refine PySem.W.KFB.if_not (notLongL hsz) ?_
  first | refine wpAny_bind (wpAny_pure ?_) | skip
  show wpAny _ _ (updateSeq l (fun xs => xs.extract 0 ((a : Int)).toNat ++ new ++ xs.extract (max (a : Int) (c : Int)).toNat xs.size) >>= _) _ _ s
  rw [hmax, Int.toNat_natCast]
  refine wpAny_bind (wpAny_updateSeq (hz := Nat.le_trans (Nat.le_add_right _ _) hsz) (_hz' := hz') e rfl ?_)
  refine wpAny_bind (wpAny_letGo ?_)
  first
    | exact wpAny_bind (wpAny_pure (wpAny_pure ⟨.none, rfl, wpAny_pure h⟩))
    | exact wpAny_pure ⟨.none, rfl, wpAny_pure h⟩
end

section
variable {X : Cx}
/-- xs[a:c] = ys of another list, at the value level: sl is the slice object that was just made -/
theorem set_slice {pins : List (Addr × Obj)} {s : Shared} {σ : St} {H : Hp} {l b sl : Addr} {xs ys : List V} {a c : Int} {vl vu : Value} {Q : Unit → Shared → Prop} (I : Inv X pins σ H s)
    (hH : H l = some (.lst xs)) (hB : H b = some (.lst ys)) (hne : l ≠ b) (hs : s.heap.IsSliceOf sl vl vu .none) (ra : RelV (.int a) vl) (rc : RelV (.int c) vu) (h0 : 0 ≤ a) (hac : a ≤ c) (hc : c ≤ xs.length)
    (hz : xs.length + ys.length ≤ sizeLine) (h : ∀ s', Inv X pins σ (upd H l (.lst (xs.take a.toNat ++ ys ++ xs.drop c.toNat))) s' → Q () s') :
    wpAny (model X.prog X.w) X.A (setItem (.ref l) (.ref sl) (.ref b)) Q X.xe s := by
  obtain ⟨ta, rfl⟩ := ra
  obtain ⟨tc, rfl⟩ := rc
  obtain ⟨z, its, n, r, hl, e⟩ := I.lstM hH
  obtain ⟨z2, its2, n2, r2, hl2, e2⟩ := I.lstM hB
  obtain ⟨a', rfl⟩ := Int.eq_ofNat_of_zero_le h0
  obtain ⟨c', rfl⟩ := Int.eq_ofNat_of_zero_le (Int.le_trans h0 hac)
  simp only [Int.toNat_natCast] at h
  refine setItem_slice (a := a') (c := c') e e2 hne hs (.int _ _) (.int _ _) (by omega) (by rw [List.size_toArray]; omega) (by rw [List.size_toArray, List.size_toArray]; omega) (h _ ?_)
  refine I.lset (its' := its.take a' ++ its2 ++ its.drop c') (t' := s.toks) hH e ?_ (Vals.append (Vals.append (r.take _) r2) (r.drop _)) ?_
  · exact splice_eq its its2 a' c'
  · rw [List.length_append, List.length_append, List.length_take, List.length_drop]
    omega
end
end L2

namespace Att
open PySem PySem.W PySem.Calls PyProof.Rows

/-! ### the script -/
theorem ints_of_wellAll {P : Params} {h : Heap} : ∀ (ns : List Int) (vs : List Value), WellAll P h vs (ns.map WData.int) → IntsAre vs ns := by
  intro ns
  induction ns with
  | nil =>
    intro vs w
    rw [List.map_nil] at w
    cases w
    exact .nil
  | cons n ns ih =>
    intro vs w
    rw [List.map_cons] at w
    cases w with
    | cons a b =>
      cases a
      exact .cons _ _ (ih _ b)

theorem script_of {l : OpenLaw} {n : Nat} (hn : l.most = some n) {P : Params} {h : Heap} {args : List WData} {vals : List Value}
    (hpre : l.row.toRowW.claim.pre args = true) (hwl : WellAll P h vals args) :
    ∃ a vs ns, vals = [Value.ref a] ∧ args = [WData.list (ns.map WData.int)] ∧ h.get? a = some { cls := .type "list", data := .seq vs.toArray } ∧ IntsAre vs ns ∧ ns.length ≤ n := by
  have hsh : WShape.hasAll [] args [.list .int] = true := (pre_splitW hpre).1
  have hc : l.pre.holds [] { args := args } = true := (pre_splitW hpre).2
  obtain ⟨d, r, rfl, h1, h2⟩ := hasAllW_cons hsh
  obtain rfl := hasAllW_nil h2
  obtain ⟨xs, rfl, h3⟩ := hasW_list h1
  obtain ⟨ns, rfl⟩ := items_int h3
  have hlen : ns.length ≤ n := by
    unfold OpenLaw.pre at hc
    have h4 : (WTm.not (.lt (.lit (.int (n : Int))) (.len (.arg 0)))).holds [] { args := [.list (ns.map .int)] } = true := by
      have h4 := (holds_andW hc).1
      rw [hn] at h4
      exact h4
    have h5 := condW_of h4 (w_not (w_lt w_lit (w_len_list (w_arg rfl))))
    rw [List.length_map] at h5
    refine Nat.le_of_not_lt fun q => ?_
    have q' : (n : Int) < ((ns.length : Nat) : Int) := by omega
    first
      | (rw [decide_eq_true q'] at h5; exact absurd h5 (by decide))
      | (simp at h5; omega)
  cases hwl with
  | cons w1 w2 =>
    cases w2
    cases w1 with
    | list ho hall => exact ⟨_, _, ns, rfl, rfl, ho, ints_of_wellAll ns _ hall, hlen⟩

theorem post_true (l : OpenLaw) (args : List WData) : l.row.toRowW.claim.post args (.bool true) args = true :=
  postW_of (r := l.row.toRowW) (X := (true == true))
    (show WShape.has [] (.bool true) .bool = true by first | rfl | decide | simp [WShape.has, WShape.arms, WShape.armsAll])
    (show (WTm.eq .res (.lit (.bool true))).value [] { args := args, res := some (.bool true), after := args } = some (.bool (true == true)) from w_eq_bool (w_res rfl) w_lit) rfl

/-! ### the attachment: holds_open's last premise (the goal 'hc' behind k_head) from a wpAny of the law's body -/
theorem attach {l : OpenLaw} {n : Nat} {q : Program} {loose : List Str} {XP : (Str → Option Value) → Heap → Prop} {YP : World → Heap → Prop} {d : DefRec} {x : Str}
    (hn : l.most = some n) (hdf : d.params.defaults = [])
    (hbind : ∀ pm cd doc v : Value, bindArgs (docDef d.name d.params d.body d.scope pm cd doc) ⟨[v], []⟩ = pure [(x, v)])
    (hx : d.scope.names.lookup x = some .local ∨ d.scope.names.lookup x = some .cell)
    (hk : d.scope.kind = .function) (hco : d.scope.isCoroutine = false) (hgen : d.scope.isGenerator = false)
    (body : ∀ (w : World) (s₀ s₁ s : Shared) (mg mb : Str → Option Value) (fa : Addr) (o : Obj) (pm cd doc : Value) (a : Addr) (vs : List Value) (ns : List Int),
      Ground q loose [] XP w s₀ mg mb s₁.heap → YP w s₁.heap →
      s₁.heap.get? fa = some o → o.data = .func (docDef d.name d.params d.body d.scope pm cd doc) → s₁.heap.CodeRec cd d.name → mg d.name = some (.ref fa) →
      s₁.heap.get? a = some { cls := .type "list", data := .seq vs.toArray } → IntsAre vs ns → ns.length ≤ n →
      s.gens = #[] → s.os = s₁.os →
      Fr s₁.heap s₁.heap.objs.size s.heap (bindL (envOfC d.name d.scope s₁.heap.objs.size fa cd).kindOf [(x, .ref a)] fun _ => none) →
      Cl s₁.heap.objs.size (cellsFrom (s₁.heap.objs.size + 1) d.scope.names []) s.heap (bindC (envOfC d.name d.scope s₁.heap.objs.size fa cd).kindOf [(x, .ref a)] fun _ => none) →
      wpAny (model l.prog w) (callerA.deeper (envOfC d.name d.scope s₁.heap.objs.size fa cd)) (execs d.body (envOfC d.name d.scope s₁.heap.objs.size fa cd))
        (fun f s' => f = .ret (.bool true) ∧ OldK s₁.heap s'.heap ∧ s'.os = s₁.os ∧ AllBare s'.gens) (fun _ _ => False) s) :
    WalkO q loose XP YP l.row.toRowW d [] (fun f vs => PySem.call f vs) := by
  intro w s₀ s₁ mg mb G Y fa o pm cd doc dV kV ho hd hcd hD hmg hg args vals as hpre hlay hrd hwl hlo
  obtain rfl : dV = .none := Dflts.none hD hdf
  obtain rfl : kV = .none := Dflts.noKw hD
  obtain ⟨a, vs, ns, rfl, rfl, hobj, hints, hlen⟩ := script_of hn hpre hwl
  refine enter_call ?_
  refine call_cells_ret (o := o) (by rw [depth_caller]; decide) ho (fd_plain hd) G.T.nolimit hcd (hbind pm cd doc (.ref a)) (fun y hy => ?_) (fun h₁ tk F X => ?_) hco hgen hk
  · obtain rfl : y = (x, Value.ref a) := List.mem_singleton.mp hy
    rcases hx with e | e
    · exact .inl e
    · exact .inr ⟨e, cellsFrom_some _ _ _ (.inl e)⟩
  · refine wpAny_mono (body w s₀ s₁ { s₁ with heap := h₁, toks := tk } mg mb fa o pm cd doc a vs ns G Y ho (fd_plain hd) hcd hmg hobj hints hlen hg rfl F X) (fun f s' hq => ?_) (fun _ _ hq => hq)
    obtain ⟨rfl, h2, h3, h4⟩ := hq
    exact ⟨.inl ⟨.bool true, .bool true, [], rfl, fun _ => rfl, .bool true, post_true l _, fun _ => ⟨List.Pairwise.nil, fun _ hm => (nomatch hm)⟩⟩, h2, h3, h4⟩

/-- the same from a codeAny of the CALL (for a layer whose function contracts speak of calls) -/
theorem attach_call {l : OpenLaw} {n : Nat} {q : Program} {loose : List Str} {XP : (Str → Option Value) → Heap → Prop} {YP : World → Heap → Prop} {d : DefRec}
    (hn : l.most = some n) (hdf : d.params.defaults = [])
    (call : ∀ (w : World) (s₀ s₁ : Shared) (mg mb : Str → Option Value) (fa : Addr) (o : Obj) (pm cd doc : Value) (a : Addr) (vs : List Value) (ns : List Int),
      Ground q loose [] XP w s₀ mg mb s₁.heap → YP w s₁.heap →
      s₁.heap.get? fa = some o → o.data = .func (docDef d.name d.params d.body d.scope pm cd doc) → s₁.heap.CodeRec cd d.name → mg d.name = some (.ref fa) →
      s₁.heap.get? a = some { cls := .type "list", data := .seq vs.toArray } → IntsAre vs ns → ns.length ≤ n → s₁.gens = #[] →
      codeAny (model l.prog w) callerA (.call (.ref fa) ⟨[.ref a], []⟩) (fun r s' => r = .ok (.ret (.bool true)) ∧ OldK s₁.heap s'.heap ∧ s'.os = s₁.os ∧ AllBare s'.gens) s₁) :
    WalkO q loose XP YP l.row.toRowW d [] (fun f vs => PySem.call f vs) := by
  intro w s₀ s₁ mg mb G Y fa o pm cd doc dV kV ho hd hcd hD hmg hg args vals as hpre hlay hrd hwl hlo
  obtain rfl : dV = .none := Dflts.none hD hdf
  obtain rfl : kV = .none := Dflts.noKw hD
  obtain ⟨a, vs, ns, rfl, rfl, hobj, hints, hlen⟩ := script_of hn hpre hwl
  refine enter_call (codeAny_mono (call w s₀ s₁ mg mb fa o pm cd doc a vs ns G Y ho (fd_plain hd) hcd hmg hobj hints hlen hg) fun r s' hq => ?_)
  obtain ⟨rfl, h2, h3, h4⟩ := hq
  exact ⟨.inl ⟨.bool true, .bool true, [], rfl, fun _ => rfl, .bool true, post_true l _, fun _ => ⟨List.Pairwise.nil, fun _ hm => (nomatch hm)⟩⟩, h2, h3, h4⟩

/-- the same where the top left finished generators (o_head chose holds_openN): nothing may have changed at all and no generator may be left -/
theorem attachN {l : OpenLaw} {n : Nat} {q : Program} {loose : List Str} {XP : (Str → Option Value) → Heap → Prop} {YP : World → Heap → Prop} {d : DefRec} {x : Str}
    (hn : l.most = some n) (hdf : d.params.defaults = [])
    (hbind : ∀ pm cd doc v : Value, bindArgs (docDef d.name d.params d.body d.scope pm cd doc) ⟨[v], []⟩ = pure [(x, v)])
    (hx : d.scope.names.lookup x = some .local ∨ d.scope.names.lookup x = some .cell)
    (hk : d.scope.kind = .function) (hco : d.scope.isCoroutine = false) (hgen : d.scope.isGenerator = false)
    (body : ∀ (w : World) (s₀ s₁ s : Shared) (mg mb : Str → Option Value) (fa : Addr) (o : Obj) (pm cd doc : Value) (a : Addr) (vs : List Value) (ns : List Int),
      Ground q loose [] XP w s₀ mg mb s₁.heap → YP w s₁.heap →
      s₁.heap.get? fa = some o → o.data = .func (docDef d.name d.params d.body d.scope pm cd doc) → s₁.heap.CodeRec cd d.name → mg d.name = some (.ref fa) →
      s₁.heap.get? a = some { cls := .type "list", data := .seq vs.toArray } → IntsAre vs ns → ns.length ≤ n →
      s.gens = #[] → s.os = s₁.os →
      Fr s₁.heap s₁.heap.objs.size s.heap (bindL (envOfC d.name d.scope s₁.heap.objs.size fa cd).kindOf [(x, .ref a)] fun _ => none) →
      Cl s₁.heap.objs.size (cellsFrom (s₁.heap.objs.size + 1) d.scope.names []) s.heap (bindC (envOfC d.name d.scope s₁.heap.objs.size fa cd).kindOf [(x, .ref a)] fun _ => none) →
      wpAny (model l.prog w) (callerA.deeper (envOfC d.name d.scope s₁.heap.objs.size fa cd)) (execs d.body (envOfC d.name d.scope s₁.heap.objs.size fa cd))
        (fun f s' => f = .ret (.bool true) ∧ (∀ b o, s₁.heap.get? b = some o → s'.heap.get? b = some o) ∧ s'.os = s₁.os ∧ s'.gens = #[]) (fun _ _ => False) s) :
    WalkN q loose XP YP l.row.toRowW d [] (fun f vs => PySem.call f vs) := by
  intro w s₀ s₁ mg mb G Y fa o pm cd doc dV kV ho hd hcd hD hmg hg args vals as hpre hlay hrd hwl hlo
  obtain rfl : dV = .none := Dflts.none hD hdf
  obtain rfl : kV = .none := Dflts.noKw hD
  obtain ⟨a, vs, ns, rfl, rfl, hobj, hints, hlen⟩ := script_of hn hpre hwl
  refine enter_callW ?_
  refine call_cells_ret (o := o) (by rw [depth_caller]; decide) ho (fd_plain hd) G.T.nolimit hcd (hbind pm cd doc (.ref a)) (fun y hy => ?_) (fun h₁ tk F X => ?_) hco hgen hk
  · obtain rfl : y = (x, Value.ref a) := List.mem_singleton.mp hy
    rcases hx with e | e
    · exact .inl e
    · exact .inr ⟨e, cellsFrom_some _ _ _ (.inl e)⟩
  · refine wpAny_mono (body w s₀ s₁ { s₁ with heap := h₁, toks := tk } mg mb fa o pm cd doc a vs ns G Y ho (fd_plain hd) hcd hmg hobj hints hlen hg rfl F X) (fun f s' hq => ?_) (fun _ _ hq => hq)
    obtain ⟨rfl, h2, h3, h4⟩ := hq
    exact ⟨.inl ⟨.bool true, .bool true, [], rfl, fun _ => rfl, .bool true, post_true l _, fun _ => ⟨List.Pairwise.nil, fun _ hm => (nomatch hm)⟩⟩, h2, h3, h4⟩

/-! ### rules over ANY heap (no ledger) from facts about the written part K: the library's own take a ledger (News) for what they write -/
section
variable {prog : Program} {w : World} {A : Around} {E : Value → Shared → Prop} {s : Shared} {K : Frag}

/-- a def of the module, or a method (qual 'C.m'), entered: the frame is the next address; cells behind it -/
theorem call_fn {R : Result → Shared → Prop} {name qual : Str} {params : Arguments} {body : List Stmt} {scope : Scope} {dV kV doc pm cdv ct oc : Value} {an od : Option Addr} {osl : Array (Option Value)} {f : Addr} {args : Args} {binds : List (Str × Value)}
    (X : K.In s.heap) (hlim : s.heap.NoLimit) (ho : K.lookup f = some ⟨oc, od, .func (fnOf name qual params body scope dV kV doc pm an cdv ct), osl⟩) (hcd : codeIn K cdv qual = true) (hroom : A.depth < recursionLimit)
    (hbind : BindsTo s (fnOf name qual params body scope dV kV doc pm an cdv ct) args binds)
    (hkind : (binds.all fun y => scope.names.lookup y.1 == some .local || scope.names.lookup y.1 == some .cell) = true)
    (h : ∀ s₁, InCallC s s.heap.objs.size (bindL (envOfC qual scope s.heap.objs.size f cdv).kindOf binds fun _ => none) (cellsFrom (s.heap.objs.size + 1) scope.names [])
        (bindC (envOfC qual scope s.heap.objs.size f cdv).kindOf binds fun _ => none) s₁ →
      wpAny (model prog w) (A.deeper (envOfC qual scope s.heap.objs.size f cdv)) (execs body (envOfC qual scope s.heap.objs.size f cdv))
        (fun fl s' => R (.ok (.ret (match fl with | .ret v => v | _ => .none))) s')
        (fun e s' => wpAny (model prog w) (A.deeper (envOfC qual scope s.heap.objs.size f cdv)) (leaving (envOfC qual scope s.heap.objs.size f cdv) e) (fun _ s'' => R (.error e) s'') (fun e' s'' => R (.error e') s'') s') s₁)
    (hco : scope.isCoroutine = false) (hgen : scope.isGenerator = false) (hk : scope.kind = .function) : codeAny (model prog w) A (.call (.ref f) args) R s := by
  refine codeAny_call_function hroom (X _ _ ho) rfl hco hgen rfl (codeRec_of X hcd) (hbind _ _ _ _ ?_)
  refine wpAny_newFunctionEnv_cells hk (kindsX hkind _) fun env he s₁ x => ?_
  subst he
  exact ⟨hlim.keeps x.toInCall.keep, codeAny_func (h s₁ x)⟩

/-- C(..): dict at size, instance at size + 1, then __init__ -/
theorem make_obj {R : Result → Shared → Prop} {C fI : Addr} {rest : List Value} {kw : List (Str × Value)}
    (X : K.In s.heap) (hm : makesIn K C = true) (hi : findIn K (.ref C) "__init__" = some (some (.ref fI))) (hf : isFn K (.ref fI) = true)
    (h : codeAny (model prog w) (A.under (.builtin "type.__call__" ⟨.ref C :: rest, kw⟩)) (.call (.ref fI) ⟨.ref (s.heap.objs.size + 1) :: rest, kw⟩) (InitBack (s.heap.objs.size + 1) R)
      { s with heap := (s.heap.push emptyDict).push (instObj C s.heap.objs.size) }) : codeAny (model prog w) A (.call (.ref C) ⟨rest, kw⟩) R s := by
  obtain ⟨hh, g, d, t, os⟩ := s
  exact make_core (makes_of X hm) (looks_findIn X hi) (fun self => bind_fn X self (beq_iff_eq.mp hf)) (.inl rfl) h

/-- x.name where the instance's dict holds the name and the class does not -/
theorem get_field {x C : Addr} {ox : Obj} {es : List DictEntry} {n : Nat} {name : Str} {expr : Bool} {v : Value} {Q : Value → Shared → Prop}
    (X : K.In s.heap) (I : PySem.W.InstAt s.heap x ox C (some (dictOf es n))) (hg : plainGet K C name = true) (hh : hasDictIn K C = true) (ha : findIn K (.ref C) name = some none)
    (hl : getL name es = some (some v)) (hv : handedIn v = true) (h : Q v { s with toks := s.toks + 1 }) : wpAny (model prog w) A (getAttr (.ref x) name expr) Q E s :=
  get_value X I (plainGet_of hg).1 (findObj_own hh ha rfl hl) hv h

/-- x.m(..): the method found in the class -/
theorem get_method {x C f : Addr} {ox : Obj} {es : List DictEntry} {n : Nat} {name : Str} {pl : Sem Bool} {Q : Value × List Value → Shared → Prop}
    (X : K.In s.heap) (I : PySem.W.InstAt s.heap x ox C (some (dictOf es n))) (hg : plainGet K C name = true) (hf : findIn K (.ref C) name = some (some (.ref f))) (ht : isFn K (.ref f) = true)
    (hl : getL name es = some none) (h : Q (.ref f, [.ref x]) s) : wpAny (model prog w) A (getMethod (.ref x) name pl) Q E s :=
  method_fn X I (plainGet_of hg).1 (plainGet_of hg).2 hf (beq_iff_eq.mp ht) (by show (lookIn name (dictOf es n)).map _ = _; rw [lookIn_dict, hl]; rfl) h

/-! the whole heap as the ledger: makes every rule that writes through a ledger a rule over any heap -/
def noObjs (h : Heap) : Heap := { h with objs := #[] }
theorem noObjs_get (h : Heap) (b : Addr) : (noObjs h).get? b = none := by
  cases e : (noObjs h).get? b with
  | none => rfl
  | some o => exact absurd (Heap.lt_size e) (Nat.not_lt_zero _)
def ledger (h : Heap) (L d : Addr) : List (Addr × Obj) := (List.range h.objs.size).filterMap fun a => if a = L ∨ a = d then none else (h.get? a).map fun o => (a, o)
theorem mem_ledger {h : Heap} {L d a : Addr} {o : Obj} : (a, o) ∈ ledger h L d ↔ a ≠ L ∧ a ≠ d ∧ h.get? a = some o := by
  unfold ledger
  rw [List.mem_filterMap]
  constructor
  · rintro ⟨b, _, e⟩
    split at e
    · cases e
    · rename_i hb
      obtain ⟨o', ho, e'⟩ := Option.map_eq_some_iff.mp e
      cases e'
      exact ⟨fun q => hb (.inl q), fun q => hb (.inr q), ho⟩
  · rintro ⟨n1, n2, ho⟩
    refine ⟨a, List.mem_range.mpr (Heap.lt_size ho), ?_⟩
    rw [if_neg (show ¬ (a = L ∨ a = d) from fun q => q.elim n1 n2), ho] <;> rfl
theorem news_ledger {h : Heap} {L d : Addr} {od : Obj} (hne : d ≠ L) (ho : h.get? d = some od) : News (noObjs h) L h ([] ++ (d, od) :: ledger h L d) := by
  rintro ⟨a, o⟩ hp
  rcases List.mem_cons.mp hp with e | hp
  · cases e
    exact ⟨ho, hne, noObjs_get _ _⟩
  · obtain ⟨n1, n2, e⟩ := mem_ledger.mp hp
    exact ⟨e, n1, noObjs_get _ _⟩
theorem fr_all {h : Heap} {L : Addr} {m : Str → Option Value} (n : h.Ns L m) : Fr (noObjs h) L h m :=
  ⟨n, fun b o e => (by rw [noObjs_get] at e; cases e), Nat.zero_le _⟩
/-- Upd of the head entry (for append_K, setItem_K ..) -/
theorem upd_ledger {h : Heap} {L d : Addr} {o o' : Obj} : Upd d o o' ((d, o) :: ledger h L d) ((d, o') :: ledger h L d) :=
  .head fun ⟨_, _⟩ hp => (mem_ledger.mp hp).2.1

/-- x.name = v over any heap: L is any namespace of the heap (the frame's, say): its map stays, its object is not told; all else but the dict stays -/
theorem set_field {x C dx L : Addr} {ox : Obj} {m : Str → Option Value} {es es' : List DictEntry} {n n' : Nat} {name : Str} {v : Value} {Q : Unit → Shared → Prop}
    (X : K.In s.heap) (I : PySem.W.InstAt s.heap x ox C (some (dictOf es n))) (hd : ox.dict = some dx) (hL : s.heap.Ns L m) (hne : dx ≠ L)
    (hs : findIn K (.ref C) "__setattr__" = some (some (.builtin "object.__setattr__"))) (hp : plainOver K C = true) (ht : takerIn K C name = some none) (hh : hasDictIn K C = true) (hl : (getL name es).isSome = true)
    (e : (putL name (PyData.keyHash w.params name) (.str name (s.toks + 1)) v es, putN name es n) = (es', n')) (hz : es'.length ≤ 1000)
    (h : ∀ h' : Heap, h'.Ns L m → h'.get? dx = some (dictOf es' n') → (∀ b o, b ≠ dx → b ≠ L → s.heap.get? b = some o → h'.get? b = some o) → Q () { s with heap := h', toks := s.toks + 2 }) :
    wpAny (model prog w) A (setAttr (.ref x) name v) Q E s := by
  obtain ⟨e1, e2⟩ := Prod.mk.inj e
  have hdx : s.heap.get? dx = some (dictOf es n) := by
    have := I.dict
    rw [hd] at this
    exact this
  refine set_plain X I hs (osa_dict (s := { s with toks := s.toks + 1 }) (h₀ := noObjs s.heap) (L := L) (m := m) (od := dictOf es n) (od' := dictOf es' n') (es := es') (n := n') (pre := []) (post := ledger s.heap L dx)
    (fr_all hL) (news_ledger hne hdx) X I hd hp ht hh hl (fun _ q => nomatch q) (fun ⟨_, _⟩ q => (mem_ledger.mp q).2.1) (by rw [putName_dict, e1, e2]) rfl hz fun h' F' N' => ?_)
  exact h h' F'.ns (N'.get (List.Mem.head _)) fun b o n1 n2 ho => N'.get (List.Mem.tail _ (mem_ledger.mpr ⟨n2, n1, ho⟩))
end
end Att

namespace L2
open PySem PySem.Spec PyProof.Rows

theorem vals_ints : ∀ {vs : List Value} {ns : List Int}, IntsAre vs ns → Vals (ns.map V.int) vs
  | _, _, .nil => .nil
  | _, _, .cons n t h => .cons ⟨t, rfl⟩ (vals_ints h)

/-- nothing is tracked but the script, known to the object (or it is an object of the module) -/
def Only (H : Hp) : Prop := ∀ b, H b = none ∨ ∃ o xs, H b = some (.frz o (.lst xs))

/-- THE HEAD: the law's promise, at the heap behind the top. F, the promise of the law's def, may use that base is part of the heap (so K.In base, base.Ns mainGlobals mg stand in Mod) -/
theorem law_call {P : Program} {w : World} {K : PySem.W.Frag} {mg mb : Str → Option Value} {CX : CXT} {k : Nat} {fa a : Addr} {fd : FuncData} {x : Str} {sp : Sp} {s₁ : Shared} {vs : List Value} {ns : List Int}
    (KX : K.In s₁.heap) (hns : s₁.heap.Ns mainGlobals mg) (hb : s₁.heap.Ns builtinsNs mb) (hbb : ∀ x : Str, x ≠ "__name__" → mb x = bootBuiltins x) (hlim : s₁.heap.NoLimit) (hg : s₁.gens = #[])
    (ha : s₁.heap.get? a = some { cls := .type "list", data := .seq vs.toArray }) (hi : IntsAre vs ns) (hl : ns.length ≤ sizeLine) (hr : Room k callerA)
    (F : ∀ base : Heap, K.In base → base.Ns mainGlobals mg → FnOk P w K mg base CX k fa fd [x] sp) (hbind : ∀ (s : Shared) (u : Value), BindsTo s fd ⟨[u], []⟩ [(x, u)])
    (hsp : ∀ H : Hp, Only H → SqL K H a (ns.map V.int) → sp [.ref a] H (fun v _ => v = .bl true) fun _ _ _ => False)
    (hCX : ∀ H e s', CX [] H s₁ (fun _ _ _ => False) e s' → False) :
    codeAny (model P w) callerA (.call (.ref fa) ⟨[.ref a], []⟩) (fun r s' => r = .ok (.ret (.bool true)) ∧ OldK s₁.heap s'.heap ∧ s'.os = s₁.os ∧ AllBare s'.gens) s₁ := by
  have rv := vals_ints hi
  have lenV := hi.length
  -- from an abstract heap in which nothing but the script may be tracked
  have core : ∀ H : Hp, Only H → SqL K H a (ns.map V.int) → HOk P w H s₁.heap → (∀ b, H b ≠ none → b = a) → (H a ≠ none → K.lookup a = none) →
      codeAny (model P w) callerA (.call (.ref fa) ⟨[.ref a], []⟩) (fun r s' => r = .ok (.ret (.bool true)) ∧ OldK s₁.heap s'.heap ∧ s'.os = s₁.os ∧ AllBare s'.gens) s₁ := by
    intro H hO hS hok hA hK
    have base_of : ∀ {b : Addr} {o : Obj}, s₁.heap.get? b = some o → H b = none → (hidT s₁.heap H).get? b = some o := fun e n => hidT_get e n
    have noA : ∀ {b : Addr} {o : Obj} {es : Array DictEntry} {ep : Nat}, s₁.heap.get? b = some o → o.data = .dict es ep → H b = none := fun {b o es ep} e d => by
      cases q : H b with
      | none => rfl
      | some u =>
        have e' : b = a := hA b (by rw [q]; simp)
        subst e'
        rw [ha] at e; cases e
        have d' : Data.seq vs.toArray _ = Data.dict es ep := d
        cases d'
    have nsK : ∀ {b : Addr} {m : Str → Option Value}, s₁.heap.Ns b m → (hidT s₁.heap H).Ns b m := fun {b m} ⟨o, es, ep, e, d, r⟩ => ⟨o, es, ep, base_of e (noA e d), d, r⟩
    have hKb : K.In (hidT s₁.heap H) := fun b o e => base_of (KX b o e) (by
      cases q : H b with
      | none => rfl
      | some u =>
        have e' : b = a := hA b (by rw [q]; simp)
        subst e'
        rw [hK (by rw [q]; simp)] at e; cases e)
    have hM : Mod K mg (hidT s₁.heap H) := ⟨hKb, nsK hns, ⟨mb, nsK hb, hbb⟩, let ⟨mc, h1, h2⟩ := hlim; ⟨mc, nsK h1, h2⟩⟩
    have e0 : Env0 P w K mg (hidT s₁.heap H) callerA [] s₁ H := ⟨rfl, hM, fun b o e => of_hidT e, Nat.le_of_eq (hidT_size _ _), trivial, fun b hb => absurd (show b ∈ ([] : List Addr) from hb) (by simp), hok, .of_eq hg⟩
    refine codeAny_mono ((F _ hKb (nsK hns)).run callerA [] s₁ H ⟨[.ref a], []⟩ [.ref a] [.ref a] _ _ hr e0 (hbind s₁ (.ref a)) (.cons rfl .nil) (hsp H hO hS)) fun r s' h => ?_
    cases r with
    | error e => exact (hCX H e s' h).elim
    | ok fl =>
      cases fl with
      | next => exact False.elim h
      | brk => exact False.elim h
      | cont => exact False.elim h
      | ret u =>
        obtain ⟨v, H', os, bare, un, hok', r', q⟩ := h
        have q' : v = .bl true := q
        subst q'
        obtain rfl : u = Value.bool true := r'
        refine ⟨rfl, OldK.of_keep fun b o e => ?_, os, bare⟩
        cases q : H b with
        | none => exact un.keep b o e q (by intro z; exact absurd (show b ∈ ([] : List Addr) from z) (by simp)) (by simp)
        | some u =>
          rcases hO b with z | ⟨ob, xs, z⟩
          · rw [q] at z; cases z
          · have z2 := un.frzs b ob _ z
            obtain ⟨e1, _⟩ := hok b _ z
            obtain ⟨e2, _⟩ := hok' b _ z2
            rw [e] at e1; cases e1
            exact e2
  cases hk : K.lookup a with
  | some o =>
    -- the script is one of the module's own objects
    have e := KX a o hk
    rw [ha] at e
    cases e
    refine core (fun _ => none) (fun _ => .inl rfl) (.inr ⟨_, vs.toArray, _, hk, rfl, rfl, rfl, by rw [List.size_toArray, lenV]; exact hl, by simpa using rv⟩) (fun b u z => by have z' : (none : Option HO) = some u := z; cases z') (fun b z => absurd rfl z) fun z => absurd rfl z
  | none =>
    refine core (fun b => if b = a then some (.frz { cls := .type "list", data := .seq vs.toArray } (.lst (ns.map V.int))) else none) (fun b => ?_) (.inl (.inr ⟨{ cls := .type "list", data := .seq vs.toArray }, if_pos rfl⟩)) (fun b u z => ?_) (fun b z => ?_) fun _ => hk
    · by_cases hb : b = a
      · exact .inr ⟨_, _, if_pos hb⟩
      · exact .inl (if_neg hb)
    · by_cases hb : b = a
      · have z' := (if_pos hb).symm.trans z
        cases z'
        subst hb
        exact ⟨ha, by rw [List.length_map]; exact hl, vs, _, rv, ha⟩
      · have z' := (if_neg hb).symm.trans z
        cases z'
    · by_cases hb : b = a
      · exact hb
      · exact absurd (if_neg hb) z
end L2

namespace L2
open PySem PySem.Spec PyProof.Rows

abbrev KOf {K : PySem.W.Frag} {h : Heap} (_ : K.In h) : PySem.W.Frag := K

/-- the goal that k_head leaves (case hc), from the law's promise. F gives the function object fd (K's own) once, then the promise over every base -/
theorem walk_of {l : PySem.W.OpenLaw} {n k : Nat} {q : Program} {loose : List Str} {XP : (Str → Option Value) → Heap → Prop} {YP : World → Heap → Prop} {d : DefRec} {K : Params → PySem.W.Frag} {CX : World → CXT} {sp : World → Sp} {x : Str}
    (hn : l.most = some n) (hn2 : n ≤ sizeLine) (hdf : d.params.defaults = []) (hr : Room k callerA)
    (hY : ∀ (w : World) (h : Heap), YP w h → (K w.params).In h)
    (F : ∀ (w : World) (mg : Str → Option Value) (fa : Addr) (h : Heap), (K w.params).In h → h.Ns mainGlobals mg → mg d.name = some (.ref fa) →
      ∃ fd : FuncData, (∀ (s : Shared) (u : Value), BindsTo s fd ⟨[u], []⟩ [(x, u)]) ∧
        ∀ base : Heap, (K w.params).In base → base.Ns mainGlobals mg → FnOk l.prog w (K w.params) mg base (CX w) k fa fd [x] (sp w))
    (hsp : ∀ (w : World) (H : Hp) (a : Addr) (ns : List Int), ns.length ≤ n → Only H → SqL (K w.params) H a (ns.map V.int) → sp w [.ref a] H (fun v _ => v = .bl true) fun _ _ _ => False)
    (hCX : ∀ (w : World) (H : Hp) (s : Shared) (e : Value) (s' : Shared), CX w [] H s (fun _ _ _ => False) e s' → False) :
    PySem.W.WalkO q loose XP YP l.row.toRowW d [] (fun f vs => PySem.call f vs) := by
  refine Att.attach_call hn hdf fun w s₀ s₁ mg mb fa o pm cd doc a vs ns G Y ho hd hcd hmg hobj hints hlen hg => ?_
  have KX := hY w _ Y
  obtain ⟨fd, hb, hF⟩ := F w mg fa _ KX G.T.g hmg
  exact law_call KX G.T.g G.T.b G.T.builtins G.T.nolimit hg hobj hints (Nat.le_trans hlen hn2) hr hF hb (fun H hO hS => hsp w H a ns hlen hO hS) fun H e s' => hCX w H s₁ e s'
/-- the same where the promise hangs on the written part alone: (sp := My.sp_law), no hole under a binder -/
theorem walk_ofK {l : PySem.W.OpenLaw} {n k : Nat} {q : Program} {loose : List Str} {XP : (Str → Option Value) → Heap → Prop} {YP : World → Heap → Prop} {d : DefRec} {K : Params → PySem.W.Frag} {CX : CXT} {sp : PySem.W.Frag → Sp} {x : Str}
    (hn : l.most = some n) (hn2 : n ≤ sizeLine) (hdf : d.params.defaults = []) (hr : Room k callerA)
    (hY : ∀ (w : World) (h : Heap), YP w h → (K w.params).In h)
    (F : ∀ (w : World) (mg : Str → Option Value) (fa : Addr) (h : Heap), (K w.params).In h → h.Ns mainGlobals mg → mg d.name = some (.ref fa) →
      ∃ fd : FuncData, (∀ (s : Shared) (u : Value), BindsTo s fd ⟨[u], []⟩ [(x, u)]) ∧
        ∀ base : Heap, (K w.params).In base → base.Ns mainGlobals mg → FnOk l.prog w (K w.params) mg base CX k fa fd [x] (sp (K w.params)))
    (hsp : ∀ (K : PySem.W.Frag) (H : Hp) (a : Addr) (ns : List Int), ns.length ≤ n → Only H → SqL K H a (ns.map V.int) → sp K [.ref a] H (fun v _ => v = .bl true) fun _ _ _ => False)
    (hCX : ∀ (H : Hp) (s : Shared) (e : Value) (s' : Shared), CX [] H s (fun _ _ _ => False) e s' → False) :
    PySem.W.WalkO q loose XP YP l.row.toRowW d [] (fun f vs => PySem.call f vs) :=
  walk_of (K := K) (CX := fun _ => CX) (sp := fun w => sp (K w.params)) hn hn2 hdf hr hY F (fun w H a ns h1 h2 h3 => hsp (K w.params) H a ns h1 h2 h3) fun _ H s e s' => hCX H s e s'
end L2

/- THE LAST THEOREM (shape; LID, My.* are yours):
   My.Adr: a structure of the addresses that your layer names (classes, functions); My.Txt K t: a structure (Prop) of the equations over K;
   My.txt_mk : {K} {implicit addresses ..} (e1 : nsIn K mainGlobals "law" = some (some (.ref f))) (e2 : K.lookup f = some ⟨oc, od, .func (fnOf "law" "law" params body scope dV kV doc pm an cdv ct), sl⟩) (e3 : codeIn K cdv "law" = true) .. : ∃ t, My.Txt K t

set_option maxRecDepth 100000 in
set_option maxHeartbeats 0 in
theorem PySem.Challenge.cw_LID_holds : PySem.Challenge.rw_LID.Holds := by
  w_on; o_law; k_head; (case hw => w_witness2)
  k_fill
  refine L2.walk_of (l := PySem.Challenge.rw_LID) (n := 63) (k := 40) (x := "script") (CX := fun w => ..) (sp := fun _ => My.sp_law) rfl (by decide) rfl ⟨rfl, by decide, by decide⟩ (fun w h Y => PySem.W.kIn_of Y) ?F ?S ?C
  case F =>
    intro w mg fa h KX G hmg
    have T : ∃ t, My.Txt (L2.KOf KX) t := by
      dsimp only [L2.KOf]                          -- K must stand as «<heap const> w.params» for k_is
      refine' My.txt_mk ?e1 ?e2 ?e3 ..
      (case e1 => PySem.W.k_is)                    -- in the order: a name -> its address -> its object -> its parts
      (case e2 => PySem.W.k_is)
      ..
    obtain ⟨t, T⟩ := T
    have e0 := hmg.symm.trans (PySem.W.mg_of KX G T.law)
    cases e0                                       -- fa is the law's own address
    exact ⟨_, fun s u => .of_eq rfl, fun base kb nb => My.law_fn T kb nb⟩     -- if «.of_eq rfl» comes too early: refine' ⟨_, ?b, fun base kb nb => My.law_fn T kb nb⟩; exact fun s u => .of_eq rfl
  case S => exact fun w H a ns hl hO hS => ..
  case C => exact ..
(the tactic k_is has no namespace: write k_is) -/

/-! SHORT WORDS over the layer: a def of the text, its body, what a loop and a test want. -/
namespace L2
open PySem PySem.Spec PyProof.Rows

/-! ### the text by places -/
/-- the j-th statement of a class's body -/
def inClass (s : Stmt) (j : Nat) : Stmt := match s with
  | .ClassDef _ _ _ body _ _ _ _ _ _ _ => body.getD j (.Pass ⟨0, 0, 0, 0⟩)
  | _ => .Pass ⟨0, 0, 0, 0⟩
def defArgs (s : Stmt) : Arguments := match s with
  | .FunctionDef _ a _ _ _ _ _ _ _ _ => a
  | _ => { posonlyargs := [], args := [], vararg := none, kwonlyargs := [], kw_defaults := [], kwarg := none, defaults := [] }
def defBody (s : Stmt) : List Stmt := match s with
  | .FunctionDef _ _ b _ _ _ _ _ _ _ => b
  | _ => []
def defScope (s : Stmt) : Scope := match s with
  | .FunctionDef _ _ _ _ _ _ sc _ _ _ => sc
  | _ => { kind := .function, names := [], isGenerator := false, isCoroutine := false }

/-! ### no exception leaves a def -/
abbrev CX0 : CXT := fun _ _ _ _ _ _ => False
abbrev E0 : XK := fun _ _ _ => False
theorem pass0 {X : Cx} : Passes CX0 X E0 := fun _ _ _ _ _ _ _ h => h.elim

/-! ### a def (or method) of the text as it stands behind the top -/
structure Fun (K : PySem.W.Frag) (x qual : Str) (st : Stmt) (f : Addr) (fd : FuncData) : Prop where
  ex : ∃ (oc : Value) (od : Option Addr) (kV doc pm : Value) (an : Option Addr) (cdv ct : Value) (osl : Array (Option Value)),
    fd = PySem.W.fnOf x qual (defArgs st) (defBody st) (defScope st) .none kV doc pm an cdv ct ∧ K.lookup f = some ⟨oc, od, .func fd, osl⟩ ∧ PySem.W.codeIn K cdv qual = true
  kp : PySem.W.keepIn K (.ref f) = true
section
variable {P : Program} {w : World} {K : PySem.W.Frag} {mg : Str → Option Value} {base : Heap}
/-- THE RULE for a def: its body as a term of rules, and the reading of that term -/
theorem Fun.ok {x qual : Str} {st : Stmt} {f : Addr} {fd : FuncData} {N ps : List Str} {k : Nat} {sp : Sp} (F : Fun K x qual st f fd) (S : FnScope N ps (defScope st)) (len : ∀ vs H Q E, sp vs H Q E → vs.length = ps.length)
    (hbody : ∀ (cdv : Value) (A : Around) (outer : List Env) (s : Shared) (H : Hp) (vs : List V) (Q : VK) (E : XK), Room k (A.deeper (envOfC qual (defScope st) s.heap.objs.size f cdv)) → sp vs H Q E →
      ∃ t, PSs (cxOf CX0 P w K mg base N qual (defScope st) f cdv A outer s H E).nox (defBody st) t ∧ t { nx := fun _ H' => Q .non H', rt := Q } (start N vs) H) : FnOk P w K mg base CX0 (k + 1) f fd ps sp := by
  obtain ⟨oc, od, kV, doc, pm, an, cdv, ct, osl, rfl, lk, hcd⟩ := F.ex
  refine fn_of lk hcd S len fun A outer s H vs Q E hr hsp => ?_
  obtain ⟨t, h, q⟩ := hbody cdv A outer s H vs Q E hr hsp
  exact ⟨t, h.nox, q⟩
/-- how its arguments bind (no defaults): h is «fun _ _ _ _ _ _ us hl => match us, hl with | [_, _], _ => rfl», one _ a parameter -/
theorem Fun.binds {x qual : Str} {st : Stmt} {f : Addr} {fd : FuncData} {ps : List Str} (F : Fun K x qual st f fd)
    (h : ∀ (kV doc pm : Value) (an : Option Addr) (cdv ct : Value) (us : List Value), us.length = ps.length → bindArgs (PySem.W.fnOf x qual (defArgs st) (defBody st) (defScope st) .none kV doc pm an cdv ct) ⟨us, []⟩ = pure (ps.zip us)) : Binds K fd ps [] := by
  obtain ⟨oc, od, kV, doc, pm, an, cdv, ct, osl, rfl, lk, hcd⟩ := F.ex
  exact .all (h kV doc pm an cdv ct)
theorem fun_mk {x qual : Str} {st : Stmt} {f : Addr} {oc : Value} {od an : Option Addr} {osl : Array (Option Value)} {kV doc pm cdv ct : Value} (l : K.lookup f = some ⟨oc, od, .func (PySem.W.fnOf x qual (defArgs st) (defBody st) (defScope st) .none kV doc pm an cdv ct), osl⟩)
    (c : PySem.W.codeIn K cdv qual = true) (k : PySem.W.keepIn K (.ref f) = true) : Fun K x qual st f (PySem.W.fnOf x qual (defArgs st) (defBody st) (defScope st) .none kV doc pm an cdv ct) := ⟨⟨oc, od, kV, doc, pm, an, cdv, ct, osl, rfl, l, c⟩, k⟩
end
theorem hu_of {A : Around} {k : Nat} (hr : Room k A) : A.units + 1 < cLine := Nat.lt_of_le_of_lt (Nat.add_le_add_left (by decide : 1 ≤ 64) _) hr.units
theorem small1000 {n : Nat} (h : n ≤ 1000) : n < sizeLine := Nat.lt_of_le_of_lt h (by decide)

/-! ### expressions in short: the name that stands in the i-th slot -/
section
variable {X : Cx}
theorem pv (i : Nat) {x : Str} {pos : Pos} (hN : X.N[i]? = some x := by rfl) (hv : Vis X.env.scope x := by first | exact Or.inl rfl | exact Or.inr (Or.inl rfl) | exact Or.inr (Or.inr rfl)) (hd : (x == ("__debug__" : Str)) = false := by decide)
    (hcd : (x == ("__classdict__" : Str)) = false := by decide) : PE X (.Name x pos) (tVar i) := pe_var hN hv hd hcd
end

/-! ### tests -/
theorem iteF {A B : Prop} (h : B) : if false = true then A else B := by
  rw [if_neg Bool.false_ne_true]
  exact h
theorem iteT {A B : Prop} (h : A) : if true = true then A else B := by
  rw [if_pos rfl]
  exact h
theorem ite2 {c A B : Prop} [Decidable c] (h1 : c → A) (h2 : ¬ c → B) : if c then A else B := by
  by_cases h : c
  · rw [if_pos h]
    exact h1 h
  · rw [if_neg h]
    exact h2 h
theorem iteNS {c A B : Prop} [Decidable c] (hc : c) (h : B) : if (!decide c) = true then A else B := by
  rw [decide_eq_true hc]
  exact iteF h

/-! ### heaps -/
/-- all that was tracked is as it was -/
def Same (H H' : Hp) : Prop := ∀ b o, H b = some o → H' b = some o
theorem Same.refl (H : Hp) : Same H H := fun _ _ h => h
theorem Same.trans {H H1 H2 : Hp} (a : Same H H1) (b : Same H1 H2) : Same H H2 := fun c o h => b c o (a c o h)
theorem Same.free {H H' : Hp} (e : Same H H') {l : Addr} (h : H' l = Option.none) : H l = Option.none := by
  cases q : H l with
  | none => rfl
  | some o =>
    rw [e l o q] at h
    cases h
theorem Same.seq {K : PySem.W.Frag} {H H' : Hp} {a : Addr} {xs : List V} (e : Same H H') (h : SqL K H a xs) : SqL K H' a xs := by
  rcases h with (h | ⟨o, h⟩) | h
  · exact .inl (.inl (e _ _ h))
  · exact .inl (.inr ⟨o, e _ _ h⟩)
  · exact .inr h

end L2

set_option Elab.async false
set_option linter.all false
set_option maxRecDepth 100000
namespace L2
open PySem PySem.Spec PyProof.Rows

/-! ### a list comprehension -/
/-- its block: the names N live in the new namespace at C; free names by the cells cl -/
def cxBlk (X : Cx) (scope : Scope) (cl : List (Str × Addr)) (C : Addr) (N : List Str) (fp : List Addr) (s : Shared) (H : Hp) : Cx :=
  { X with N := N, s₀ := s, H₀ := H, env := compEnvC scope cl C X.env, outer := X.stack, ex := fp, fn := fun _ => false, pn := [], xe := fun _ _ => False }

def PTs (X : Cx) (ifs : List Expr) (t : TT) : Prop :=
  ∀ (pins : List (Addr × Obj)) (s : Shared) (σ : St) (H : Hp) (Q : Bool → Hp → Prop), Inv X pins σ H s → t σ H Q →
    wpAny (model X.prog X.w) X.A (forIn ifs true fun c r => if r = true then do let ok ← isTrue c X.env (eval c X.env); pure (ForInStep.yield ok) else pure (ForInStep.yield r)) (TP X pins σ Q) X.xe s
def tTrue : TT := fun _ H Q => Q true H
theorem pts_nil {X : Cx} : PTs X [] tTrue := fun _ _ _ H _ I h => wpAny_tests_nil ⟨H, I, h⟩
theorem pts_one {X : Cx} {c : Expr} {t : TT} (h : PT X c t) : PTs X [c] t := fun pins s σ H Q I q => wpAny_tests_one (h pins s σ H Q I q)

theorem codeAny_compLoop_go {prog : Program} {w : World} {A : Around} {R : Result → Shared → Prop} {s : Shared} {elt target iter : Expr} {ifs : List Expr} {scope : Scope} {pos : Pos} {it acc : Value} {env : Env} (I : Nat → Shared → Prop)
    (turn : ∀ n s, I n s → wpAny (model prog w) A (pyNext it) (fun r s₁ => match r with
      | none => R (.ok .next) s₁
      | some v => wpAny (model prog w) A (letOwnedTupleGo target it v) (fun _ s₁' => wpAny (model prog w) A (assign target env v) (fun _ s₂ =>
          wpAny (model prog w) A (forIn ifs true fun c r => if r = true then do let ok ← isTrue c env (eval c env); pure (ForInStep.yield ok) else pure (ForInStep.yield r)) (fun ok s₃ =>
            if ok = true then wpAny (model prog w) A (eval elt env) (fun x s₄ =>
              wpAny (model prog w) A (call (.builtin "list.append") [acc, x]) (fun _ s₅ => ∃ m, m < n ∧ I m s₅) (fun _ _ => False) s₄) (fun _ _ => False) s₃
            else ∃ m, m < n ∧ I m s₃) (fun _ _ => False) s₂) (fun _ _ => False) s₁') (fun _ _ => False) s₁) (fun _ _ => False) s)
    (n : Nat) (h : I n s) :
    codeAny (model prog w) A (.compLoop (.ListComp elt [⟨target, iter, ifs, 0⟩] scope pos) 0 it acc env) R s := by
  have lift : ∀ {α : Type} {t : Sem α} {Q : α → Shared → Prop} {E : Value → Shared → Prop} {s : Shared}, wpAny (model prog w) A t Q (fun _ _ => False) s → wpAny (model prog w) A t Q E s :=
    fun h => wpAny_mono h (fun _ _ q => q) fun _ _ q => q.elim
  refine codeAny_loop rfl I (fun n s hI => ?_) n h
  show wpAny _ A ((compTurn (.ListComp elt [⟨target, iter, ifs, 0⟩] scope pos) 0 it acc env).onRaise (fun x => do noteFrame x env; theTreesLotGoes x)) _ _ s
  refine wpAny_noted ?_
  rw [compTurn_list]
  refine wpAny_bind (wpAny_standAt (wpAny_bind (wpAny_mono (lift (turn n s hI)) (fun r s₁ h₁ => ?_) fun _ _ h' => h')))
  cases r with
  | none => exact wpAny_pure h₁
  | some v =>
    refine wpAny_bind (wpAny_mono (lift h₁) (fun _ s₁' h₁' => ?_) fun _ _ h' => h')
    refine wpAny_bind (wpAny_mono (lift h₁') (fun _ s₂ h₂ => wpAny_bind (wpAny_mono (lift h₂) (fun ok s₃ h₃ => ?_) fun _ _ h' => h')) fun _ _ h' => h')
    cases ok with
    | false => exact wpAny_pure ⟨rfl, h₃⟩
    | true =>
      exact wpAny_bind (wpAny_bind (wpAny_mono (lift h₃) (fun x s₄ h₄ => wpAny_bind (wpAny_mono (lift h₄) (fun _ s₅ h₅ => wpAny_pure (wpAny_pure ⟨rfl, h₅⟩)) fun _ _ h' => h')) fun _ _ h' => h'))

/-- names of the block: own ones (none), or free ones, by the slot in the body around -/
def BsOk (XN : List Str) (xn sn : List (Str × NameKind)) : List Str → List (Option Nat) → Prop
  | [], [] => True
  | _ :: N, none :: bs => BsOk XN xn sn N bs
  | x :: N, some j :: bs => (XN[j]? = some x ∧ xn.lookup x = some .cell ∧ sn.lookup x = some .free) ∧ BsOk XN xn sn N bs
  | _, _ => False
def bst (bs : List (Option Nat)) (σ : St) : St := bs.map fun o => o.bind fun j => (σ[j]?).join
theorem BsOk.len {XN : List Str} {xn sn : List (Str × NameKind)} : ∀ {N : List Str} {bs : List (Option Nat)}, BsOk XN xn sn N bs → bs.length = N.length
  | [], [], _ => rfl
  | _ :: N, none :: bs, h => congrArg (· + 1) (BsOk.len (N := N) (bs := bs) h)
  | _ :: N, some _ :: bs, h => congrArg (· + 1) (BsOk.len (N := N) (bs := bs) h.2)
theorem BsOk.get {XN : List Str} {xn sn : List (Str × NameKind)} : ∀ {N : List Str} {bs : List (Option Nat)} {i j : Nat}, BsOk XN xn sn N bs → bs[i]? = some (some j) → ∃ x, N[i]? = some x ∧ XN[j]? = some x ∧ xn.lookup x = some .cell ∧ sn.lookup x = some .free
  | [], [], _, _, _, e => by simp at e
  | _ :: N, none :: bs, 0, _, _, e => by simp at e
  | _ :: N, none :: bs, i + 1, j, h, e => by
    obtain ⟨x, h1, h2⟩ := BsOk.get (N := N) (bs := bs) (i := i) (j := j) h (by simpa using e)
    exact ⟨x, by simpa using h1, h2⟩
  | x :: N, some k :: bs, 0, j, h, e => by
    have : k = j := by simpa using e
    subst this
    exact ⟨x, rfl, h.1⟩
  | _ :: N, some k :: bs, i + 1, j, h, e => by
    obtain ⟨x, h1, h2⟩ := BsOk.get (N := N) (bs := bs) (i := i) (j := j) h.2 (by simpa using e)
    exact ⟨x, by simpa using h1, h2⟩

theorem relabel_free {env : Env} : ∀ {names : List (Str × NameKind)} {x : Str}, names.lookup x = some .free →
    ((names.map fun (n, k) => if (k == NameKind.free && env.scope.kind == .function && env.kindOf n == some .cell) then (n, NameKind.cell) else (n, k)).lookup x = some .cell ∨
    (names.map fun (n, k) => if (k == NameKind.free && env.scope.kind == .function && env.kindOf n == some .cell) then (n, NameKind.cell) else (n, k)).lookup x = some .free)
  | [], _, h => by simp at h
  | (n, k) :: r, x, h => by
    have ih := @relabel_free env r x
    simp only [List.map_cons]
    cases hx : x == n with
    | true =>
      simp only [List.lookup_cons, hx] at h
      cases h
      by_cases hc : (NameKind.free == NameKind.free && env.scope.kind == .function && env.kindOf n == some .cell) = true
      · rw [if_pos hc]; simp only [List.lookup_cons, hx]; simp
      · rw [if_neg hc]; simp only [List.lookup_cons, hx]; simp
    | false =>
      simp only [List.lookup_cons, hx] at h
      by_cases hc : (k == NameKind.free && env.scope.kind == .function && env.kindOf n == some .cell) = true
      · rw [if_pos hc]; simp only [List.lookup_cons, hx]; exact ih h
      · rw [if_neg hc]; simp only [List.lookup_cons, hx]; exact ih h
theorem relabel_back {env : Env} : ∀ {names : List (Str × NameKind)} {x : Str}, (∀ y ∈ names, y.2 ≠ .cell) →
    ((names.map fun (n, k) => if (k == NameKind.free && env.scope.kind == .function && env.kindOf n == some .cell) then (n, NameKind.cell) else (n, k)).lookup x = some .cell ∨
    (names.map fun (n, k) => if (k == NameKind.free && env.scope.kind == .function && env.kindOf n == some .cell) then (n, NameKind.cell) else (n, k)).lookup x = some .free) → names.lookup x = some .free
  | [], _, _, h => by simp at h
  | (n, k) :: r, x, hn, h => by
    have ih := @relabel_back env r x fun y hy => hn y (.tail _ hy)
    simp only [List.map_cons] at h
    cases hx : x == n with
    | true =>
      by_cases hc : (k == NameKind.free && env.scope.kind == .function && env.kindOf n == some .cell) = true
      · simp only [Bool.and_eq_true, beq_iff_eq] at hc
        simp only [List.lookup_cons, hx]
        rw [hc.1.1]
      · rw [if_neg hc] at h
        simp only [List.lookup_cons, hx] at h ⊢
        rcases h with h | h
        · exact absurd (Option.some.inj h) (hn (n, k) (.head _))
        · exact h
    | false =>
      simp only [List.lookup_cons, hx]
      by_cases hc : (k == NameKind.free && env.scope.kind == .function && env.kindOf n == some .cell) = true
      · rw [if_pos hc] at h; simp only [List.lookup_cons, hx] at h; exact ih h
      · rw [if_neg hc] at h; simp only [List.lookup_cons, hx] at h; exact ih h

/-- what the text must say of the block -/
structure Blk (X : Cx) (scope : Scope) (cl : List (Str × Addr)) (N : List Str) (bs : List (Option Nat)) : Prop where
  clos : closureFor scope X.env = pure cl
  kind : scope.kind = .function
  cell : ∀ y ∈ scope.names, y.2 ≠ .cell
  names : ∀ y ∈ scope.names, y.2 = .local → scope.names.lookup y.1 = some .local
  cl1 : ∀ p ∈ cl, X.env.cells.lookup p.1 = some p.2
  cl2 : ∀ y ∈ scope.names, y.2 = .free → (cl.lookup y.1).isSome = true
  bs : BsOk X.N X.env.scope.names scope.names N bs

section
variable {X : Cx} {scope : Scope} {cl : List (Str × Addr)} {N : List Str} {bs : List (Option Nat)} {pins : List (Addr × Obj)} {σ : St} {H : Hp} {s : Shared} {fp : List Addr} {C : Addr}
theorem Blk.c1 (B : Blk X scope cl N bs) {x : Str} {c : Addr} (h : cl.lookup x = some c) : X.env.cells.lookup x = some c := B.cl1 (x, c) (PySem.mem_of_lookup h)
theorem Blk.c2 (B : Blk X scope cl N bs) {x : Str} (h : (compEnvC scope cl C X.env).kindOf x = some .cell ∨ (compEnvC scope cl C X.env).kindOf x = some .free) : ∃ c, cl.lookup x = some c := by
  have h1 := relabel_back (env := X.env) B.cell h
  exact Option.isSome_iff_exists.mp (B.cl2 (x, .free) (PySem.mem_of_lookup h1) rfl)

theorem Blk.ok (B : Blk X scope cl N bs) (I : Inv X pins σ H s) (hf : ∀ b ∈ fp, FpOk X pins H b) (ho : ∀ b ∈ fp, ∃ o, s.heap.get? b = some o ∧ ∀ v, o.data ≠ .cell v) (hC : s.heap.objs.size ≤ C) : (cxBlk X scope cl C N fp s H).Ok := by
  refine ⟨I.ok.mod, B.kind, I.ok.glob, I.ok.blt, hC, fun x y c h1 h2 => I.ok.inj x y c (B.c1 h1) (B.c1 h2), fun x h => B.c2 h, fun x c h _ => (Bool.false_ne_true h).elim, I.ok.hd, I.ok.frames, .inl rfl, fun b hb => ?_, I.bs, Nat.le_trans I.ok.bsz I.sz, fun b o e hb => ?_, fun b hb hb' => ?_, I.stack, I.stkFree⟩
  · obtain ⟨o, e, _⟩ := ho b hb
    obtain ⟨_, _, _, _, f4, _⟩ := hf b hb
    exact ⟨Nat.ne_of_lt (Nat.lt_of_lt_of_le (Heap.lt_size e) hC), fun x c h => f4 x c (B.c1 h)⟩
  · obtain ⟨_, _, _, f3, _⟩ := hf b hb
    rcases f3 with z | z
    · exact I.ok.noex b o e z
    · exact absurd (Nat.lt_of_lt_of_le (Heap.lt_size e) (Nat.le_trans I.ok.bsz z)) (Nat.lt_irrefl _)
  · obtain ⟨_, f1, f2, _⟩ := hf b hb
    rcases List.mem_cons.mp (I.stkSub b hb') with z | z
    · exact f1 z
    · exact f2 z

theorem Blk.inv (B : Blk X scope cl N bs) (I : Inv X pins σ H s) (hf : ∀ b ∈ fp, FpOk X pins H b) (ho : ∀ b ∈ fp, ∃ o, s.heap.get? b = some o ∧ ∀ v, o.data ≠ .cell v) (hC : s.heap.objs.size ≤ C) {h' : Heap} {t' : Nat}
    (hk : ∀ b o, s.heap.get? b = some o → h'.get? b = some o) {m : Str → Option Value} (hn : h'.Ns C m) {D : Addr} {oD : Obj} (hD : h'.get? D = some oD) (hD1 : s.heap.objs.size ≤ D) (hDC : D ≠ C) (hDd : ∀ v, oD.data ≠ .cell v) :
    Inv (cxBlk X scope cl C N fp s H) [(D, oD)] (bst bs σ) H { s with heap := h', toks := t' } := by
  have ok : (cxBlk X scope cl C N fp s H).Ok := B.ok I hf ho hC
  refine ⟨ok, rfl, I.bare, Un.kept hk, ⟨m, hn, fun i x v e1 e2 e3 => ?_⟩, fun x c h => ?_, I.hok.fresh hC, fun x c h => I.freeC x c (B.c1 h), fun p hp => ?_, I.hok.kept hk, ?_⟩
  · have e2' : (bst bs σ)[i]? = some (some v) := e2
    unfold bst at e2'
    rw [List.getElem?_map] at e2'
    cases q : bs[i]? with
    | none => rw [q] at e2'; cases e2'
    | some o =>
      rw [q] at e2'
      cases o with
      | none => cases e2'
      | some j =>
        obtain ⟨y, y1, y2, y3, y4⟩ := B.bs.get q
        have e1' : N[i]? = some x := e1
        rw [e1'] at y1
        cases y1
        have e4 : σ[j]? = some (some v) := by
          have z : (σ[j]?).join = some v := Option.some.inj e2'
          cases w : σ[j]? with
          | none => rw [w] at z; cases z
          | some o => rw [w] at z; rw [show o = some v from z]
        obtain ⟨mx, hmx, lx⟩ := I.loc
        obtain ⟨u, r, l⟩ := lx j x v y2 e4 (.inr (.inl y3))
        refine ⟨u, r, .inr ⟨relabel_free (env := X.env) y4, ?_⟩⟩
        rcases l with ⟨l1, _⟩ | ⟨_, c, l2, l3⟩
        · have l1' : X.env.scope.names.lookup x = some .local := l1
          rw [y3] at l1'
          cases l1'
        · obtain ⟨c', h'⟩ := Option.isSome_iff_exists.mp (B.cl2 (x, .free) (PySem.mem_of_lookup y4) rfl)
          have h2 := B.c1 h'
          rw [l2] at h2
          cases h2
          obtain ⟨oc, hoc, hd⟩ := l3
          exact ⟨c, h', oc, hk _ _ hoc, hd⟩
  · obtain ⟨v, oc, hoc, hd⟩ := I.cell x c (B.c1 h)
    exact ⟨v, oc, hk _ _ hoc, hd⟩
  · have e : p = (D, oD) := by simpa [cxBlk] using hp
    subst e
    refine ⟨hD, I.hok.fresh hD1, hDC, fun z => ?_, hDd⟩
    have z' : D ∈ frs X.stack := z
    rcases List.mem_cons.mp (I.stkSub D z') with q | q
    · exact Nat.lt_irrefl _ (Nat.lt_of_lt_of_le I.lt (by rw [← q]; exact hD1))
    · exact I.nofs hD1 q
  · show (bst bs σ).length = N.length
    unfold bst
    rw [List.length_map]
    exact B.bs.len
end

/-- the reading of [elt for tg in iter if ..] -/
def tLC (bs : List (Option Nat)) (wi : TI) (g : TG) (tt : TT) (te : TE) : TE := fun σ H Q => wi σ H fun J H1 => ∃ W : Nat → Nat → List V → St → Hp → Prop, (∃ m, W 0 m [] (bst bs σ) H1) ∧ ∀ i m ys σ' H', W i m ys σ' H' →
  (J.stop i H' ∧ ys.length ≤ sizeLine ∧ ∀ p, H' p = none → Q (.ref p) (upd H' p (.lst ys))) ∨
  (J.go i H' ∧ ys.length < sizeLine ∧ ∃ N : List V → St → Hp → Prop, (∀ zs σ2 H2, N zs σ2 H2 → ∃ m', m' < m ∧ W (i + 1) m' zs σ2 H2) ∧ ∀ x H2, J.yld i H' x H2 → g x σ' H2 fun σ3 H3 => tt σ3 H3 fun b H4 =>
    if b = true then te σ3 H4 fun v H5 => N (ys ++ [v]) σ3 H5 else N ys σ3 H4)

theorem pe_lc {X : Cx} {scope : Scope} {cl : List (Str × Addr)} {N : List Str} {bs : List (Option Nat)} {tg iter elt : Expr} {ifs : List Expr} {pos : Pos} {wi : TI} {g : TG} {tt : TT} {te : TE} (B : Blk X scope cl N bs) (hc : X.calm = true)
    (hi : PI X tg iter wi) (hg : ∀ C fp s H, PG (cxBlk X scope cl C N fp s H) tg g) (ht : ∀ C fp s H, PTs (cxBlk X scope cl C N fp s H) ifs tt) (he : ∀ C fp s H, PE (cxBlk X scope cl C N fp s H) elt te)
    (hs : ∀ x, foldedSetIterable iter X.env x = pure x := by intro _; rfl) :
    PE X (.ListComp elt [⟨tg, iter, ifs, 0⟩] scope pos) (tLC bs wi g tt te) := by
  intro pins s σ H Q I h
  rw [eval_ListComp]
  refine wpAny_comprehension_free (use := none) rfl hs B.clos B.kind B.names (thn (hi pins s σ H _ I h) fun v s1 h1 => thn h1 fun itv s2 h2 => ?_)
  obtain ⟨it, fp, tn, J, H2, rfl, I2, T, st2, f2, W, ⟨m0, w0⟩, turn⟩ := h2
  refine wpAny_newObj_type (wpAny_newFunctionEnv B.cell (by intro y hy; simp at hy) (fun h₁ hns₁ hsb₁ => ?_) B.kind)
  dsimp only at hns₁ hsb₁ ⊢
  generalize hG : s2.heap.push { cls := .type "list", dict := none, data := .seq ([] : List Value).toArray } = G at hns₁ hsb₁ ⊢
  have hC : G.objs.size = s2.heap.objs.size + 1 := by rw [← hG, Heap.size_push]
  have hDC : s2.heap.objs.size ≠ G.objs.size := by rw [hC]; exact Nat.ne_of_lt (Nat.lt_succ_self _)
  have hCle : s2.heap.objs.size ≤ G.objs.size := by rw [hC]; exact Nat.le_succ _
  have old : ∀ b o, s2.heap.get? b = some o → h₁.get? b = some o := fun b o e => hsb₁.extBut b o (by rw [hC]; exact Nat.ne_of_lt (Nat.lt_succ_of_lt (Heap.lt_size e))) (Heap.get?_push_of_some _ (hG ▸ Heap.get?_push_of_some _ e))
  have hacc : h₁.get? s2.heap.objs.size = some { cls := .type "list", data := .seq ([] : List Value).toArray 0 } := hsb₁.extBut _ _ hDC (Heap.get?_push_of_some _ (hG ▸ Heap.get?_push_size _ rfl))
  have stat : ∀ {D : Addr} {o : Obj} {H' : Hp}, s2.heap.objs.size ≤ D → (∀ b ∈ fp, H' b = none) → ∀ b ∈ fp, FpOk (cxBlk X scope cl G.objs.size N fp s2 H2) [(D, o)] H' b := fun {D o H'} hD hn b hb => by
    obtain ⟨ob, eb, _⟩ := T.obj _ _ st2 b hb
    obtain ⟨_, f1, f3, f4, f5, _⟩ := f2 b hb
    have ok := B.ok I2 f2 (T.obj _ _ st2) (C := G.objs.size) hCle
    refine ⟨hn b hb, (ok.exf b hb).1, ok.exfs b hb, .inl hb, (ok.exf b hb).2, fun p hp => ?_⟩
    have e : p = (D, o) := by simpa [cxBlk] using hp
    subst e
    exact Nat.ne_of_gt (Nat.lt_of_lt_of_le (Heap.lt_size eb) hD)
  have loop : ∀ s₃ : Shared, s₃ = { s2 with heap := h₁, toks := s2.toks + ([] : List (Str × Value)).length } →
      codeAny (model X.prog X.w) X.A (.compLoop (.ListComp elt [⟨tg, iter, ifs, 0⟩] scope pos) 0 (.ref it) (.ref s2.heap.objs.size) (compEnvC scope cl G.objs.size X.env))
        (compPost (model X.prog X.w) X.A X.xe none (EP X pins σ Q) (.ref s2.heap.objs.size) G.objs.size) s₃ := by
    rintro s₃ rfl
    refine codeAny_compLoop_go (fun n s' => ∃ i ys its k σ' H', Inv (cxBlk X scope cl G.objs.size N fp s2 H2) [(s2.heap.objs.size, { cls := .type "list", data := .seq (List.toArray its) k })] σ' H' s' ∧ Vals ys its ∧ tn i s'.heap ∧ (∀ b ∈ fp, H' b = none) ∧ W i n ys σ' H') ?_ m0
      ⟨0, [], [], 0, bst bs σ, H2, B.inv I2 f2 (T.obj _ _ st2) hCle old hns₁ hacc (Nat.le_refl _) hDC (fun v z => nomatch z), .nil, T.keep _ _ _ st2 fun b _ o e => old b o e, fun b hb => (f2 b hb).1, w0⟩
    rintro n s3 ⟨i, ys, its, k, σ3, H3, I3, rv, st3, fr3, w3⟩
    have pD := I3.pin _ (List.mem_append_right _ (.head _))
    rcases turn i n ys σ3 H3 w3 with ⟨stop, hz, qn⟩ | ⟨go, hz, NN, hNN, step⟩
    · refine thn (T.done (cxBlk X scope cl G.objs.size N fp s2 H2) rfl rfl rfl hc i _ s3 σ3 H3 (fun _ _ => False) I3 (stat (Nat.le_refl _) fr3) st3 stop) fun r s4 ⟨hr, I4⟩ => ?_
      subst hr
      have pD4 := I4.pin _ (List.mem_append_right _ (.head _))
      obtain ⟨m4, hn4, _⟩ := I4.loc
      refine ⟨m4, hn4, fun h5 sb5 => ?_⟩
      have hD5 : h5.get? s2.heap.objs.size = some { cls := .type "list", data := .seq (List.toArray its) k } := sb5.extBut _ _ hDC pD4.1
      have k5 : ∀ b o, b ≠ G.objs.size → s4.heap.get? b = some o → h5.get? b = some o := fun b o hb e => sb5.extBut b o hb e
      have hC4 : H3 G.objs.size = none := I4.free
      have hok4 : HOk X.prog X.w H3 s4.heap := I4.hok
      have hok5 : HOk X.prog X.w (upd H3 s2.heap.objs.size (.lst ys)) h5 := fun b u e => by
        by_cases hb : b = s2.heap.objs.size
        · subst hb
          rw [upd_same] at e
          cases e
          exact ⟨hz, its, k, rv, hD5⟩
        · rw [upd_ne hb] at e
          have nC : ∀ c u', H3 c = some u' → c ≠ G.objs.size := fun c u' q z => by rw [z, hC4] at q; cases q
          have nD : ∀ c u', H3 c = some u' → c ≠ s2.heap.objs.size := fun c u' q z => by rw [z, pD4.2.1] at q; cases q
          refine (hok4 b u e).stay (fun c v hc' q => k5 c v ?_ q) (fun c q => by rw [upd_ne (nD c _ q)]; exact q) fun c xs q => by rw [upd_ne (nD c _ q)]; exact q
          rcases hc' with z | z
          · rw [z]; exact nC b u e
          · exact nC c _ z
      have un4 : Un (frs X.stack) fp H2 H3 s2.heap s4.heap := I4.base
      have neC : ∀ b o, s2.heap.get? b = some o → b ≠ G.objs.size := fun b o e => Nat.ne_of_lt (Nat.lt_of_lt_of_le (Heap.lt_size e) hCle)
      have neD : ∀ b o, s2.heap.get? b = some o → b ≠ s2.heap.objs.size := fun b o e => Nat.ne_of_lt (Heap.lt_size e)
      have un5 : Un (frs X.stack) fp H2 (upd H3 s2.heap.objs.size (.lst ys)) s2.heap h5 := {
        keep := fun b o e n hb hx => k5 b o (neC b o e) (un4.keep b o e n hb hx)
        slot := fun b o e n hb hx => let ⟨sl, q⟩ := un4.slot b o e n hb hx; ⟨sl, k5 b _ (neC b o e) q⟩
        free := fun b o e n hx => by rw [upd_ne (neD b o e)]; exact un4.free b o e n hx
        there := fun b o e hx => let ⟨o', q⟩ := un4.there b o e hx; ⟨o', k5 b _ (neC b o e) q⟩
        tups := fun b xs e => by rw [upd_ne (ne_of_none e (I2.hok.fresh (Nat.le_refl _)))]; exact un4.tups b xs e
        frzs := fun b o u e => by rw [upd_ne (ne_of_none e (I2.hok.fresh (Nat.le_refl _)))]; exact un4.frzs b o u e
        tbls := fun b ps e => by rw [upd_ne (ne_of_none e (I2.hok.fresh (Nat.le_refl _)))]; exact un4.tbls b ps e }
      refine ⟨.ref s2.heap.objs.size, _, I2.call' (s' := { s4 with heap := h5 }) ((show s4.os = s2.os from I4.os)) un5 hok5 I4.bare (fun b hb => ?_), rfl, qn _ pD4.2.1⟩
      obtain ⟨_, f1, f3, f4, f5, f6⟩ := f2 b hb
      exact ⟨f4, f1, f5, f6⟩
    · refine thn (T.item (cxBlk X scope cl G.objs.size N fp s2 H2) rfl rfl rfl hc i _ s3 σ3 H3 (fun _ _ => False) I3 (stat (Nat.le_refl _) fr3) st3 go) fun r s4 ⟨u, hr, h4⟩ => ?_
      subst hr
      refine thn h4 fun _ s5 ⟨x, H5, I5, r5, y5, st5, fr5⟩ => ?_
      have I5' := I5.pinned (stat (Nat.le_refl _) fr5) (T.obj _ _ st5)
      refine thn (hg _ _ _ _ _ s5 σ3 H5 x u _ I5' r5 (step x H5 y5)) fun _ s6 ⟨σ6, H6, I6, q6⟩ => ?_
      refine thn (ht _ _ _ _ _ s6 σ6 H6 _ I6 q6) fun ok s7 ⟨H7, I7, q7⟩ => ?_
      have back : ∀ {σ8 : St} {H8 : Hp} {s8 : Shared} {pl : List (Addr × Obj)}, Inv (cxBlk X scope cl G.objs.size N fp s2 H2) (pl ++ pinsAt fp s5.heap) σ8 H8 s8 → tn (i + 1) s8.heap ∧ ∀ b ∈ fp, H8 b = none := fun {σ8 H8 s8 pl} I8 =>
        ⟨T.keep _ _ _ st5 fun b hb o e => (I8.pin (b, o) (List.mem_append_right _ (List.mem_append_right _ (mem_pinsAt hb e)))).1, fun b hb => by
          obtain ⟨o, e, d⟩ := T.obj _ _ st5 b hb
          exact (I8.pin (b, o) (List.mem_append_right _ (List.mem_append_right _ (mem_pinsAt hb e)))).2.1⟩
      cases ok with
      | false =>
        rw [if_neg Bool.false_ne_true] at q7 ⊢
        obtain ⟨m', hm, w7⟩ := hNN _ _ _ q7
        exact ⟨m', hm, i + 1, ys, its, k, σ6, H7, I7.unpinned, rv, (back I7).1, (back I7).2, w7⟩
      | true =>
        rw [if_pos rfl] at q7 ⊢
        refine thn (he _ _ _ _ _ s7 σ6 H7 _ I7 q7) fun y s8 ⟨v8, H8, I8, r8, q8⟩ => ?_
        obtain ⟨m', hm, w8⟩ := hNN _ _ _ q8
        have pD8 := I8.pin _ (List.mem_append_right _ (List.mem_append_left _ (.head _)))
        have hl := rv.length
        refine wpAny_list_append_plain ⟨k, pD8.1⟩ (fun h9 pl9 sb9 => ?_) (by rw [List.size_toArray]; omega)
        obtain ⟨k9, e9⟩ := pl9
        have e9' : h9.get? s2.heap.objs.size = some { cls := .type "list", data := .seq (List.toArray (its ++ [y])) k9 } := by rw [e9]; simp
        have I8' : Inv (cxBlk X scope cl G.objs.size N fp s2 H2) (pinsAt fp s5.heap) σ6 H8 s8 := I8.pins_of fun p hp => I8.pin p (List.mem_append_right _ (List.mem_append_right _ hp))
        have I9 : Inv (cxBlk X scope cl G.objs.size N fp s2 H2) (pinsAt fp s5.heap) σ6 H8 { s8 with heap := h9 } := I8'.turned (it := s2.heap.objs.size) (t' := s8.toks) (fun b o hb e => sb9.extBut b o hb e) pD8.2.1 pD8.2.2.1 (.inr (Nat.le_refl _))
          (fun x c e z => by
            obtain ⟨vc, oc, hoc, hd⟩ := I8.cell x c e
            rw [z, pD8.1] at hoc
            cases hoc
            cases hd)
          fun p hp z => by
            have hp' : p ∈ pinsAt fp s5.heap := by simpa [cxBlk] using hp
            obtain ⟨q1, q2⟩ := of_pinsAt hp'
            obtain ⟨ob, eb, _⟩ := T.obj _ _ st2 p.1 q1
            exact Nat.lt_irrefl _ (by have := Heap.lt_size eb; rw [z] at this; exact this)
        have hk9 : ∀ b ∈ fp, ∀ o, s8.heap.get? b = some o → h9.get? b = some o := fun b hb o e => sb9.extBut b o (fun z => by
          obtain ⟨ob, eb, _⟩ := T.obj _ _ st2 b hb
          exact Nat.lt_irrefl _ (by have := Heap.lt_size eb; rw [z] at this; exact this)) e
        refine ⟨m', hm, i + 1, ys ++ [v8], its ++ [y], k9, σ6, H8, I9.pins_of fun p hp => ?_, rv.append (.cons r8 .nil), T.keep _ _ _ (back I8).1 hk9, (back I8).2, w8⟩
        have e : p = (s2.heap.objs.size, { cls := .type "list", data := .seq (List.toArray (its ++ [y])) k9 }) := by simpa using hp
        subst e
        exact ⟨e9', pD8.2.1, pD8.2.2.1, pD8.2.2.2.1, fun v z => nomatch z⟩
  exact codeAny_compStart_list (loop _ rfl) (T.self _ 0 _ _ _ (T.keep _ _ _ st2 fun b _ o e => old b o e) (loop _ rfl))

/-- over a tuple that stays -/
theorem lc_tup {K : PySem.W.Frag} {a : Addr} {xs : List V} {g : TG} {tt : TT} {te : TE} {σ : St} {H : Hp} {Q : VK} (Pv : Nat → List V → St → Hp → Prop) (hz : xs.length ≤ sizeLine) (h0 : Pv 0 [] σ H) (hl : ∀ i ys σ H, i ≤ xs.length → Pv i ys σ H → SqT K H a xs ∧ ys.length ≤ i)
    (hs : ∀ i x ys σ H, xs[i]? = some x → Pv i ys σ H → g x σ H fun σ3 H3 => tt σ3 H3 fun b H4 => if b = true then te σ3 H4 fun v H5 => Pv (i + 1) (ys ++ [v]) σ3 H5 else Pv (i + 1) ys σ3 H4)
    (hd : ∀ ys σ H, Pv xs.length ys σ H → ∀ p, H p = none → Q (.ref p) (upd H p (.lst ys))) :
    ∃ W : Nat → Nat → List V → St → Hp → Prop, (∃ m, W 0 m [] σ H) ∧ ∀ i m ys σ' H', W i m ys σ' H' →
      ((Itt K a).stop i H' ∧ ys.length ≤ sizeLine ∧ ∀ p, H' p = none → Q (.ref p) (upd H' p (.lst ys))) ∨
      ((Itt K a).go i H' ∧ ys.length < sizeLine ∧ ∃ N : List V → St → Hp → Prop, (∀ zs σ2 H2, N zs σ2 H2 → ∃ m', m' < m ∧ W (i + 1) m' zs σ2 H2) ∧ ∀ x H2, (Itt K a).yld i H' x H2 → g x σ' H2 fun σ3 H3 => tt σ3 H3 fun b H4 =>
        if b = true then te σ3 H4 fun v H5 => N (ys ++ [v]) σ3 H5 else N ys σ3 H4) := by
  refine ⟨fun i m ys σ H => m = xs.length - i ∧ i ≤ xs.length ∧ Pv i ys σ H, ⟨xs.length, by simp, Nat.zero_le _, h0⟩, ?_⟩
  rintro i m ys σ H ⟨rfl, hi, p⟩
  obtain ⟨q, ql⟩ := hl i ys σ H hi p
  by_cases hlt : i < xs.length
  · refine .inr ⟨⟨xs, xs[i], q, by simp [hlt]⟩, by omega, Pv (i + 1), fun zs σ' H' p' => ⟨xs.length - (i + 1), by omega, rfl, hlt, p'⟩, fun x H' y => ?_⟩
    obtain ⟨e, y⟩ := y
    subst e
    exact hs i x ys σ _ (y xs q) p
  · have e : i = xs.length := by omega
    subst e
    exact .inl ⟨⟨xs, q, Nat.le_refl _⟩, by omega, hd ys σ H p⟩
end L2

set_option Elab.async false
set_option linter.all false
set_option maxRecDepth 100000
namespace L2
open PySem PySem.Spec PyProof.Rows

/-! ### the builtins' module, as makers of functions ask it -/
def BM (mg : Str → Option Value) (h : Heap) : Prop :=
  ∃ bm ob, mg "__builtins__" = some (.ref bm) ∧ bm ≠ builtinsNs ∧ h.get? bm = some ob ∧ ob.cls = .type "module" ∧ ob.dict = some builtinsNs ∧ ob.data = .plain

/-- THE HEAD with code tables that may grow (lambdas are made) -/
theorem law_callT {P : Program} {w : World} {K : PySem.W.Frag} {mg mb : Str → Option Value} {CX : CXT} {k : Nat} {fa a : Addr} {fd : FuncData} {x : Str} {sp : Sp} {s₁ : Shared} {vs : List Value} {ns : List Int} {ts : List Addr}
    (KX : K.In s₁.heap) (hns : s₁.heap.Ns mainGlobals mg) (hb : s₁.heap.Ns builtinsNs mb) (hbb : ∀ x : Str, x ≠ "__name__" → mb x = bootBuiltins x) (hlim : s₁.heap.NoLimit) (hg : s₁.gens = #[])
    (ha : s₁.heap.get? a = some { cls := .type "list", data := .seq vs.toArray }) (hi : IntsAre vs ns) (hl : ns.length ≤ sizeLine) (hr : Room k callerA)
    (hT : ∀ Pt ∈ ts, s₁.heap.get? Pt = some (PySem.W.tabObj #[]) ∧ isCodeTable s₁.heap Pt) (hKn : PySem.W.noTabs K = true) (hbm : BM mg s₁.heap)
    (F : ∀ base : Heap, K.In base → base.Ns mainGlobals mg → BM mg base → FnOk P w K mg base CX k fa fd [x] sp) (hbind : ∀ (s : Shared) (u : Value), BindsTo s fd ⟨[u], []⟩ [(x, u)])
    (hsp : ∀ H : Hp, (∀ Pt ∈ ts, H Pt = some (.tbl #[])) → SqL K H a (ns.map V.int) → sp [.ref a] H (fun v _ => v = .bl true) fun _ _ _ => False)
    (hCX : ∀ H e s', CX [] H s₁ (fun _ _ _ => False) e s' → False) :
    codeAny (model P w) callerA (.call (.ref fa) ⟨[.ref a], []⟩) (fun r s' => r = .ok (.ret (.bool true)) ∧ OldK s₁.heap s'.heap ∧ s'.os = s₁.os ∧ AllBare s'.gens) s₁ := by
  have rv := vals_ints hi
  have lenV := hi.length
  have aT : a ∉ ts := fun z => by
    have e := (hT a z).1
    rw [ha] at e
    cases e
  have core : ∀ H : Hp, SqL K H a (ns.map V.int) → HOk P w H s₁.heap → (∀ b, H b ≠ none → b = a ∨ b ∈ ts) → (H a ≠ none → K.lookup a = none) → (∀ u, H a = some u → ∃ o xs, u = .frz o (.lst xs)) → (∀ Pt ∈ ts, H Pt = some (.tbl #[])) →
      codeAny (model P w) callerA (.call (.ref fa) ⟨[.ref a], []⟩) (fun r s' => r = .ok (.ret (.bool true)) ∧ OldK s₁.heap s'.heap ∧ s'.os = s₁.os ∧ AllBare s'.gens) s₁ := by
    intro H hS hok hA hK hfz htb
    have base_of : ∀ {b : Addr} {o : Obj}, s₁.heap.get? b = some o → H b = none → (hidT s₁.heap H).get? b = some o := fun e n => hidT_get e n
    have free_of : ∀ {b : Addr} {o : Obj}, s₁.heap.get? b = some o → o ≠ { cls := .type "list", data := .seq vs.toArray } → o ≠ PySem.W.tabObj #[] → H b = none := fun {b o} e n1 n2 => by
      cases q : H b with
      | none => rfl
      | some u =>
        rcases hA b (by rw [q]; simp) with z | z
        · subst z
          rw [ha] at e; cases e
          exact absurd rfl n1
        · rw [(hT b z).1] at e; cases e
          exact absurd rfl n2
    have noA : ∀ {b : Addr} {o : Obj} {es : Array DictEntry} {ep : Nat}, s₁.heap.get? b = some o → o.data = .dict es ep → H b = none := fun {b o es ep} e d =>
      free_of e (fun z => by rw [z] at d; cases d) fun z => by rw [z] at d; cases d
    have nsK : ∀ {b : Addr} {m : Str → Option Value}, s₁.heap.Ns b m → (hidT s₁.heap H).Ns b m := fun {b m} ⟨o, es, ep, e, d, r⟩ => ⟨o, es, ep, base_of e (noA e d), d, r⟩
    have hKb : K.In (hidT s₁.heap H) := fun b o e => base_of (KX b o e) (by
      cases q : H b with
      | none => rfl
      | some u =>
        rcases hA b (by rw [q]; simp) with z | z
        · subst z
          rw [hK (by rw [q]; simp)] at e; cases e
        · have e1 := (hT b z).1
          rw [KX b o e] at e1
          cases e1
          have h2 := List.all_eq_true.mp hKn (b, _) (PySem.W.mem_of_lookupK e)
          exact absurd (show false = true from h2) Bool.false_ne_true)
    have hM : Mod K mg (hidT s₁.heap H) := ⟨hKb, nsK hns, ⟨mb, nsK hb, hbb⟩, let ⟨mc, h1, h2⟩ := hlim; ⟨mc, nsK h1, h2⟩⟩
    have hBM : BM mg (hidT s₁.heap H) := by
      obtain ⟨bm, ob, b1, b2, b3, b4, b5⟩ := hbm
      exact ⟨bm, ob, b1, b2, base_of b3 (free_of b3 (fun z => by rw [z] at b4; exact absurd (Value.type.inj b4) (by decide)) fun z => by rw [z] at b4; cases b4), b4, b5⟩
    have e0 : Env0 P w K mg (hidT s₁.heap H) callerA [] s₁ H := ⟨rfl, hM, fun b o e => of_hidT e, Nat.le_of_eq (hidT_size _ _), trivial, fun b hb => absurd (show b ∈ ([] : List Addr) from hb) (by simp), hok, .of_eq hg⟩
    refine codeAny_mono ((F _ hKb (nsK hns) hBM).run callerA [] s₁ H ⟨[.ref a], []⟩ [.ref a] [.ref a] _ _ hr e0 (hbind s₁ (.ref a)) (.cons rfl .nil) (hsp H htb hS)) fun r s' h => ?_
    cases r with
    | error e => exact (hCX H e s' h).elim
    | ok fl =>
      cases fl with
      | next => exact False.elim h
      | brk => exact False.elim h
      | cont => exact False.elim h
      | ret u =>
        obtain ⟨v, H', os, bare, un, hok', r', q⟩ := h
        have q' : v = .bl true := q
        subst q'
        obtain rfl : u = Value.bool true := r'
        have key : ∀ b o, s₁.heap.get? b = some o → s'.heap.get? b = some o ∨ (b ∈ ts ∧ o = PySem.W.tabObj #[] ∧ ∃ ps, s'.heap.get? b = some (PySem.W.tabObj ps)) := fun b o e => by
          cases q : H b with
          | none => exact .inl (un.keep b o e q (by intro z; exact absurd (show b ∈ ([] : List Addr) from z) (by simp)) (by simp))
          | some u =>
            rcases hA b (by rw [q]; simp) with z | z
            · subst z
              obtain ⟨ob, xs, rfl⟩ := hfz u q
              have z2 := un.frzs b ob _ q
              obtain ⟨e1, _⟩ := hok b _ q
              obtain ⟨e2, _⟩ := hok' b _ z2
              rw [e] at e1; cases e1
              exact .inl e2
            · have e1 := (hT b z).1
              rw [e] at e1; cases e1
              obtain ⟨more, z2⟩ := un.tbls b _ (htb b z)
              exact .inr ⟨z, rfl, _, hok' b _ z2⟩
        refine ⟨rfl, ⟨fun b o e => ?_, fun b o e => ?_⟩, os, bare⟩
        · rcases key b o e with z | ⟨z, rfl, ps, z2⟩
          · exact .inl z
          · exact .inr (.inl ⟨(hT b z).2, rfl, #[], ps, rfl, by rw [z2]; simp⟩)
        · rcases key b o e with z | ⟨z, rfl, ps, z2⟩
          · exact ⟨_, z⟩
          · exact ⟨_, z2⟩
  have tOk : ∀ {H : Hp} {Pt : Addr}, Pt ∈ ts → ObjOk P w H s₁.heap Pt (.tbl #[]) := fun {H Pt} z => (hT Pt z).1
  cases hk : K.lookup a with
  | some o =>
    have e := KX a o hk
    rw [ha] at e
    cases e
    refine core (fun b => if b ∈ ts then some (.tbl #[]) else none) (.inr ⟨_, vs.toArray, _, hk, rfl, rfl, rfl, by rw [List.size_toArray, lenV]; exact hl, by simpa using rv⟩) (fun b u z => ?_) (fun b z => ?_) (fun z => absurd (if_neg aT) z) (fun u z => by rw [if_neg aT] at z; cases z) fun Pt z => if_pos z
    · by_cases hb : b ∈ ts
      · have z' := (if_pos hb).symm.trans z
        cases z'
        exact tOk hb
      · have z' := (if_neg hb).symm.trans z
        cases z'
    · by_cases hb : b ∈ ts
      · exact .inr hb
      · exact absurd (if_neg hb) z
  | none =>
    refine core (fun b => if b = a then some (.frz { cls := .type "list", data := .seq vs.toArray } (.lst (ns.map V.int))) else if b ∈ ts then some (.tbl #[]) else none) (.inl (.inr ⟨{ cls := .type "list", data := .seq vs.toArray }, if_pos rfl⟩)) (fun b u z => ?_) (fun b z => ?_) (fun _ => hk)
      (fun u z => by rw [if_pos rfl] at z; cases z; exact ⟨_, _, rfl⟩) fun Pt z => by rw [if_neg (fun (q : Pt = a) => aT (q ▸ z)), if_pos z]
    · by_cases hb : b = a
      · have z' := (if_pos hb).symm.trans z
        cases z'
        subst hb
        exact ⟨ha, by rw [List.length_map]; exact hl, vs, _, rv, ha⟩
      · have z' := (if_neg hb).symm.trans z
        by_cases hb2 : b ∈ ts
        · rw [if_pos hb2] at z'
          cases z'
          exact tOk hb2
        · rw [if_neg hb2] at z'
          cases z'
    · by_cases hb : b = a
      · exact .inl hb
      · by_cases hb2 : b ∈ ts
        · exact .inr hb2
        · exact absurd ((if_neg hb).trans (if_neg hb2)) z

theorem walk_ofT {l : PySem.W.OpenLaw} {n k : Nat} {q : Program} {loose : List Str} {XP : (Str → Option Value) → Heap → Prop} {YP : World → Heap → Prop} {d : DefRec} {K : Params → PySem.W.Frag} {sp : PySem.W.Frag → Sp} {x : Str} {ts : List Addr}
    (hn : l.most = some n) (hn2 : n ≤ sizeLine) (hdf : d.params.defaults = []) (hr : Room k callerA)
    (hY : ∀ (w : World) (h : Heap), YP w h → (K w.params).In h) (hY2 : ∀ (w : World) (h : Heap), YP w h → ∀ Pt ∈ ts, h.get? Pt = some (PySem.W.tabObj #[]))
    (hKn : ∀ w : World, PySem.W.noTabs (K w.params) = true) (hC : ∀ w : World, ∀ Pt ∈ ts, ∃ c, PySem.W.codeHdIn (K w.params) c Pt = true)
    (F : ∀ (w : World) (mg : Str → Option Value) (fa : Addr) (h : Heap), (K w.params).In h → h.Ns mainGlobals mg → mg d.name = some (.ref fa) →
      ∃ fd : FuncData, (∀ (s : Shared) (u : Value), BindsTo s fd ⟨[u], []⟩ [(x, u)]) ∧
        ∀ base : Heap, (K w.params).In base → base.Ns mainGlobals mg → BM mg base → FnOk l.prog w (K w.params) mg base CX0 k fa fd [x] (sp (K w.params)))
    (hsp : ∀ (K : PySem.W.Frag) (H : Hp) (a : Addr) (ns : List Int), ns.length ≤ n → (∀ Pt ∈ ts, H Pt = some (.tbl #[])) → SqL K H a (ns.map V.int) → sp K [.ref a] H (fun v _ => v = .bl true) fun _ _ _ => False) :
    PySem.W.WalkO q loose XP YP l.row.toRowW d [] (fun f vs => PySem.call f vs) := by
  refine Att.attach_call hn hdf fun w s₀ s₁ mg mb fa o pm cd doc a vs ns G Y ho hd hcd hmg hobj hints hlen hg => ?_
  have KX := hY w _ Y
  obtain ⟨fd, hb, hF⟩ := F w mg fa _ KX G.T.g hmg
  refine law_callT KX G.T.g G.T.b G.T.builtins G.T.nolimit hg hobj hints (Nat.le_trans hlen hn2) hr (fun Pt hP => ⟨hY2 w _ Y Pt hP, ?_⟩) (hKn w) G.T.bmain hF hb (fun H hT hS => hsp (K w.params) H a ns hlen hT hS) fun H e s' z => z
  obtain ⟨c, hc⟩ := hC w Pt hP
  exact ((PySem.W.codeHd_of_K KX hc).tab (hY2 w _ Y Pt hP)).isCodeTable

/-! ### a lambda of one parameter: its call -/
def cxLam (P : Program) (w : World) (K : PySem.W.Frag) (mg : Str → Option Value) (base : Heap) (N : List Str) (qual : Str) (scope : Scope) (cl : List (Str × Addr)) (f c' : Addr) (A : Around) (outer : List Env) (s : Shared) (H : Hp) : Cx where
  prog := P
  w := w
  K := K
  mg := mg
  base := base
  A := A.deeper (PySem.W.envX qual scope s.heap.objs.size f (.ref c') cl)
  N := N
  s₀ := s
  H₀ := H
  env := PySem.W.envX qual scope s.heap.objs.size f (.ref c') cl
  outer := outer
  stack := PySem.W.envX qual scope s.heap.objs.size f (.ref c') cl :: outer
  ex := []
  calm := true
  fn := fun _ => false
  pn := []
  xe := fun _ _ => False

/-- what the text must say of a lambda -/
structure Lam (x : Str) (fr : List Str) (params : Arguments) (scope : Scope) : Prop where
  kind : scope.kind = .function
  co : scope.isCoroutine = false
  gen : scope.isGenerator = false
  cell : ∀ y ∈ scope.names, y.2 ≠ .cell
  par : scope.names.lookup x = some .local
  bind : ∀ (nm qual : Str) (body : Expr) (cl : List (Str × Addr)) (pm cdv ct u : Value), bindArgs (PySem.W.kla_fn nm qual params body scope cl pm cdv ct) ⟨[u], []⟩ = pure [(x, u)]
  free : ∀ y ∈ fr, scope.names.lookup y = some .free

/-- the closure's cells hold the values fv of the names fr -/
def ClosAt (cl : List (Str × Addr)) (H : Hp) (h : Heap) (fr : List Str) (fv : List V) : Prop :=
  fr.length = fv.length ∧ ∀ (i : Nat) (y : Str) (v : V), fr[i]? = some y → fv[i]? = some v → ∃ u c, RelV v u ∧ cl.lookup y = some c ∧ h.IsCell c (some u)

theorem lam_run {P : Program} {w : World} {K : PySem.W.Frag} {mg : Str → Option Value} {base : Heap} {k : Nat} {A : Around} {outer : List Env} {s : Shared} {H : Hp} {nm qual : Str} {params : Arguments} {body : Expr} {scope : Scope} {cl : List (Str × Addr)} {pm ctv u : Value} {c' f : Addr} {x : Str} {fr : List Str} {fv : List V} {v : V} {te : TE} {Q : VK}
    (L : Lam x fr params scope) (hr : Room (k + 1) A) (e0 : Env0 P w K mg base A outer s H)
    (hf : s.heap.get? f = some (PySem.W.kla_obj nm qual params body scope cl pm c' ctv)) (hcd : s.heap.CodeRec (.ref c') qual)
    (hinj : ∀ y z c, cl.lookup y = some c → cl.lookup z = some c → y = z) (hhas : ∀ y ∈ scope.names, y.2 = .free → (cl.lookup y.1).isSome = true) (hcells : ∀ y c, cl.lookup y = some c → (∃ v, s.heap.IsCell c v) ∧ H c = none)
    (hC : ClosAt cl H s.heap fr fv) (rv : RelV v u)
    (hbody : PE (cxLam P w K mg base (x :: fr) qual scope cl f c' A outer s H) body te) (hq : te (some v :: fv.map some) H Q) :
    codeAny (model P w) A (.call (.ref f) ⟨[u], []⟩) (CR CX0 outer P w H s Q E0) s := by
  have lim : s.heap.NoLimit := e0.mod.nolimit.keeps fun b o e => (e0.bs b o e).1
  refine PySem.W.kla_callFunE hr.depth hf rfl L.co L.gen rfl hcd ?_
  rw [L.bind]
  refine wpAny_pure (wpAny_newFunctionEnv L.cell (fun y hy => ?_) (fun h₁ hns hsb => ⟨lim.fresh _ hsb, ?_⟩) L.kind)
  · obtain rfl : y = (x, u) := List.mem_singleton.mp hy
    exact L.par
  show codeAny _ _ (.expr body (PySem.W.envX qual scope s.heap.objs.size f (.ref c') cl)) _ _
  have hk₁ : ∀ b o, s.heap.get? b = some o → h₁.get? b = some o := fun b o e => hsb.extBut b o (Nat.ne_of_lt (Heap.lt_size e)) (Heap.get?_push_of_some _ e)
  have cellK : ∀ c v, s.heap.IsCell c v → h₁.IsCell c v := fun c v ⟨o, ho, hd⟩ => ⟨o, hk₁ _ _ ho, hd⟩
  have noA : ∀ b : Addr, b ∉ (cxLam P w K mg base (x :: fr) qual scope cl f c' A outer s H).ex := fun b z => absurd (show b ∈ ([] : List Addr) from z) (by simp)
  have I : Inv (cxLam P w K mg base (x :: fr) qual scope cl f c' A outer s H) [] (some v :: fv.map some) H { s with heap := h₁, toks := s.toks + [(x, u)].length } := by
    refine ⟨⟨e0.mod, L.kind, rfl, rfl, Nat.le_refl _, hinj, fun y hy => ?_, fun y c h _ => (Bool.false_ne_true h).elim, fun _ => hr.hd, Around.frames_deeper e0.frames, .inr ⟨rfl, rfl⟩, fun b z => absurd z (noA b), e0.bs, e0.bsz, fun b _ _ => noA b, fun b z => absurd z (noA b), e0.funs, e0.frf⟩,
      rfl, e0.bare, Un.kept hk₁, ⟨_, hns, fun i y z h1 h2 h3 => ?_⟩, fun y c h => ?_, e0.hok.fresh (Nat.le_refl _), fun y c h => (hcells y c h).2, fun p hp => absurd (show p ∈ ([] : List (Addr × Obj)) from hp) (by simp), e0.hok.kept hk₁, ?_⟩
    · have hy' : scope.names.lookup y = some .cell ∨ scope.names.lookup y = some .free := hy
      rcases hy' with q | q
      · exact absurd rfl (L.cell _ (PySem.mem_of_lookup q))
      · exact Option.isSome_iff_exists.mp (hhas (y, .free) (PySem.mem_of_lookup q) rfl)
    · cases i with
      | zero =>
        have e1 : x = y := by simpa using (show (x :: fr)[0]? = some y from h1)
        have e2 : v = z := by simpa using h2
        subst e1
        subst e2
        refine ⟨u, rv, .inl ⟨L.par, ?_⟩⟩
        simp
      | succ j =>
        have e1 : fr[j]? = some y := by simpa using (show (x :: fr)[j + 1]? = some y from h1)
        have e2 : fv[j]? = some z := by
          have := h2
          simp only [List.getElem?_cons_succ, List.getElem?_map] at this
          cases q : fv[j]? with
          | none => rw [q] at this; cases this
          | some a => rw [q] at this; cases this; rfl
        obtain ⟨u', c, r, l, ce⟩ := hC.2 j y z e1 e2
        exact ⟨u', r, .inr ⟨.inr (L.free y (List.mem_of_getElem? e1)), c, l, cellK _ _ ce⟩⟩
    · obtain ⟨⟨z, q⟩, _⟩ := hcells y c h
      exact ⟨z, cellK _ _ q⟩
    · show (some v :: fv.map some).length = (x :: fr).length
      simp [hC.1]
  refine PySem.W.kla_codeExpr (wpAny_mono (hbody [] _ _ H Q I hq) (fun z s' hs => ?_) fun _ _ z => z.elim)
  obtain ⟨v', H', J, r', q'⟩ := hs
  exact ⟨v', H', J.os, J.bare, J.base, J.hok, r', q'⟩

/-! ### making a lambda -/
/-- the code table of the def that makes it: empty, or with this one code -/
def TabE (qual : Str) (c' : Addr) : HO := .ext fun h => h.CodeRec (.ref c') qual
def TabI (P : Addr) (pos : Pos) (qual : Str) (H : Hp) : Prop :=
  H P = some (.tbl #[]) ∨ ∃ c', H P = some (.tbl #[rawInt pos.line, rawInt pos.col, .ref c']) ∧ H c' = some (TabE qual c')
/-- all that was tracked is as it was, but for the table at P, which has the code now -/
structure Gr (P : Addr) (pos : Pos) (qual : Str) (H H' : Hp) : Prop where
  keep : ∀ b o, H b = some o → b ≠ P → H' b = some o
  tab : TabI P pos qual H'
theorem Gr.refl {P : Addr} {pos : Pos} {qual : Str} {H : Hp} (h : TabI P pos qual H) : Gr P pos qual H H := ⟨fun _ _ e _ => e, h⟩
theorem Gr.trans {P : Addr} {pos : Pos} {qual : Str} {H H1 H2 : Hp} (a : Gr P pos qual H H1) (b : Gr P pos qual H1 H2) : Gr P pos qual H H2 := ⟨fun c o e n => b.keep c o (a.keep c o e n) n, b.tab⟩
theorem TabI.same {P : Addr} {pos : Pos} {qual : Str} {H H' : Hp} (h : TabI P pos qual H) (s : Same H H') : TabI P pos qual H' := by
  rcases h with h | ⟨c', h1, h2⟩
  · exact .inl (s _ _ h)
  · exact .inr ⟨c', s _ _ h1, s _ _ h2⟩
theorem Gr.same {P : Addr} {pos : Pos} {qual : Str} {H H1 H2 : Hp} (a : Gr P pos qual H H1) (b : Same H1 H2) : Gr P pos qual H H2 := ⟨fun c o e n => b c o (a.keep c o e n), a.tab.same b⟩

theorem codeRec_ext {h : Heap} {c' : Addr} {qual : Str} (x : h.CodeRec (.ref c') qual) : ∃ o, h.get? c' = some o := by
  obtain ⟨c, oc, vs, t, e, ho, _⟩ := x
  cases e
  exact ⟨oc, ho⟩
theorem codeRec_at {h1 h2 : Heap} {c' : Addr} {qual : Str} (x : h1.CodeRec (.ref c') qual) (k : ∀ o, h1.get? c' = some o → h2.get? c' = some o) : h2.CodeRec (.ref c') qual := by
  obtain ⟨c, oc, vs, t, e, ho, r⟩ := x
  cases e
  exact ⟨c', oc, vs, t, rfl, k _ ho, r⟩

theorem lam_make {X : Cx} {pins : List (Addr × Obj)} {σ : St} {H : Hp} {s : Shared} {qual0 : Str} {params : Arguments} {body : Expr} {scope : Scope} {cl : List (Str × Addr)} {c P : Addr} {pos : Pos} {E : Value → Shared → Prop} {Q : Value → Shared → Prop}
    (I : Inv X pins σ H s) (hbm : BM X.mg X.base) (hcl : closureFor scope X.env = pure cl) (hcode : X.env.code = .ref c) (hC : PySem.W.codeHdIn X.K c P = true) (hq0 : X.env.qual ++ "<lambda>" = qual0) (hdef : defaultsOf params X.env = ([], []))
    (htab : TabI P pos qual0 H)
    (k : ∀ f c' pm ctv s' H', Inv X pins σ H' s' → Gr P pos qual0 H H' → s'.heap.get? f = some (PySem.W.kla_obj "<lambda>" qual0 params body scope cl pm c' ctv) → s.heap.objs.size ≤ f → H' f = none → H' c' = some (TabE qual0 c') → Q (.ref f) s') :
    wpAny (model X.prog X.w) X.A (eval (.Lambda params body scope pos) X.env) Q E s := by
  refine PySem.W.kla_eval hdef ?_
  rw [hq0]
  have hgs : s.heap.Ns mainGlobals X.mg := I.mod.glob.keeps I.bk
  have Ch : PySem.W.CodeHd s.heap c P := PySem.W.codeHd_of_K I.kIn hC
  obtain ⟨bm, ob, b1, b2, b3, b4, b5, b6⟩ := hbm
  have b3' := I.bk _ _ b3
  have bmH : H bm = none := (I.bs _ _ b3).2
  have hbG : bm ≠ mainGlobals := fun q => by
    obtain ⟨o, es, ep, e, hd, _⟩ := hgs
    rw [q, e] at b3'; cases b3'; rw [hd] at b6; cases b6
  rcases htab with h0 | ⟨c', h1, h2⟩
  · have hP : s.heap.get? P = some (PySem.W.tabObj #[]) := I.hok P _ h0
    have hgP : mainGlobals ≠ P := fun q => by
      obtain ⟨o, es, ep, e, hd, _⟩ := hgs
      rw [q, hP] at e; cases e; cases hd
    have hbP : bm ≠ P := fun q => by rw [q, h0] at bmH; cases bmH
    refine PySem.W.kla_makeFunction (mg := X.mg) hcl I.ok.glob hgs hcode Ch hP trivial rfl hgP ⟨bm, ob, b1, b2, hbG, hbP, b3', b4, b5, b6⟩ fun c' ctv h' tk hx hge hlt hrec htb => ?_
    have hrec' : (h'.push (PySem.W.kla_obj "<lambda>" qual0 params body scope cl ((X.mg "__name__").getD .none) c' ctv)).CodeRec (.ref c') qual0 := codeRec_at hrec fun o e => Heap.get?_push_of_some _ e
    have hPc : P ≠ c' := fun z => Nat.lt_irrefl _ (Nat.lt_of_lt_of_le (Heap.lt_size hP) (by rw [z]; exact hge))
    have kp : ∀ b o, b ≠ P → s.heap.get? b = some o → (h'.push (PySem.W.kla_obj "<lambda>" qual0 params body scope cl ((X.mg "__name__").getD .none) c' ctv)).get? b = some o := fun b o hb e => Heap.get?_push_of_some _ (hx b o hb e)
    have hc0 : H c' = none := I.hok.fresh hge
    have nP : ∀ b, H b = none → b ≠ P := fun b n z => by rw [z, h0] at n; cases n
    have hN : ∀ b u, H b = some u → b ≠ c' := fun b u e => ne_of_none e hc0
    have htb' : (h'.push (PySem.W.kla_obj "<lambda>" qual0 params body scope cl ((X.mg "__name__").getD .none) c' ctv)).get? P = some (PySem.W.tabObj #[rawInt pos.line, rawInt pos.col, .ref c']) := by
      have := Heap.get?_push_of_some (PySem.W.kla_obj "<lambda>" qual0 params body scope cl ((X.mg "__name__").getD .none) c' ctv) htb
      simpa using this
    have hsz : s.heap.objs.size ≤ h'.objs.size := Nat.le_of_lt (Nat.lt_of_le_of_lt hge hlt)
    refine k _ c' _ ctv _ (upd (upd H P (.tbl #[rawInt pos.line, rawInt pos.col, .ref c'])) c' (TabE qual0 c')) (I.un (t' := tk) ?_ ?_) ⟨fun b o e n => ?_, .inr ⟨c', ?_, upd_same⟩⟩ (Heap.get?_push_size _ rfl) hsz ?_ upd_same
    · exact {
        keep := fun b o e n _ _ => kp b o (nP b n) e
        slot := fun b o e n _ _ => ⟨o.slots, kp b o (nP b n) e⟩
        free := fun b o e n _ => by rw [upd_ne (Nat.ne_of_lt (Nat.lt_of_lt_of_le (Heap.lt_size e) hge)), upd_ne (nP b n)]; exact n
        there := fun b o e _ => by
          by_cases hb : b = P
          · exact ⟨_, hb ▸ htb'⟩
          · exact ⟨o, kp b o hb e⟩
        tups := fun b xs e => by rw [upd_ne (hN b _ e), upd_ne (fun z => by rw [z, h0] at e; cases e)]; exact e
        frzs := fun b o u e => by rw [upd_ne (hN b _ e), upd_ne (fun z => by rw [z, h0] at e; cases e)]; exact e
        tbls := fun b ps e => by
          by_cases hb : b = P
          · subst hb
            rw [h0] at e
            cases e
            exact ⟨#[rawInt pos.line, rawInt pos.col, .ref c'], by rw [upd_ne hPc, upd_same]; simp⟩
          · exact ⟨#[], by rw [upd_ne (hN b _ e), upd_ne hb, e]; simp⟩ }
    · intro b u e
      by_cases hb : b = c'
      · subst hb
        rw [upd_same] at e
        cases e
        exact ⟨hrec', codeRec_ext hrec', fun h1 h2 x q => codeRec_at x fun o e => q o e⟩
      · rw [upd_ne hb] at e
        by_cases hb2 : b = P
        · subst hb2
          rw [upd_same] at e
          cases e
          exact htb'
        · rw [upd_ne hb2] at e
          refine (I.hok b u e).stay (fun d v hd q => kp d v ?_ q) (fun d q => by rw [upd_ne (hN d _ q), upd_ne (fun z => by rw [z, h0] at q; cases q)]; exact q) fun d xs q => by rw [upd_ne (hN d _ q), upd_ne (fun z => by rw [z, h0] at q; cases q)]; exact q
          rcases hd with z | z
          · rw [z]; exact hb2
          · intro z2
            rw [z2, h0] at z
            cases z
    · rw [upd_ne (hN b o e), upd_ne n]; exact e
    · rw [upd_ne hPc, upd_same]
    · rw [upd_ne (Nat.ne_of_gt hlt), upd_ne (Nat.ne_of_gt (Nat.lt_of_lt_of_le (Heap.lt_size hP) hsz))]
      exact I.hok.fresh hsz
  · have hP : s.heap.get? P = some (PySem.W.tabObj #[rawInt pos.line, rawInt pos.col, .ref c']) := I.hok P _ h1
    have hbP : bm ≠ P := fun q => by rw [q, h1] at bmH; cases bmH
    refine PySem.W.kla_makeFunctionHit (mg := X.mg) hcl I.ok.glob hgs hcode Ch hP trivial (cv := .ref c') (by simp [codeAmong, rawInt]) ⟨bm, ob, b1, b2, hbG, hbP, b3', b4, b5, b6⟩ fun ctv h' tk hk hsz => ?_
    exact k _ c' _ ctv _ H (I.kept (t' := tk) fun b o e => Heap.get?_push_of_some _ (hk b o e)) (.refl (.inr ⟨c', h1, h2⟩)) (Heap.get?_push_size _ rfl) hsz (I.hok.fresh hsz) h2
end L2

set_option Elab.async false
set_option linter.all false
set_option maxRecDepth 100000
set_option maxHeartbeats 4000000
namespace L2
open PySem PySem.Spec PyProof.Rows

/-! ### sorted(list of ints, key=a function) -/
theorem FpOk.pin1 {X : Cx} {pins pins' : List (Addr × Obj)} {σ : St} {H : Hp} {s : Shared} {b : Addr} {o : Obj} (f : FpOk X pins H b) (_ : Inv X pins' σ H s) (e : s.heap.get? b = some o) (d : ∀ v, o.data ≠ .cell v) :
    s.heap.get? (b, o).1 = some (b, o).2 ∧ H (b, o).1 = none ∧ (b, o).1 ≠ X.env.locals ∧ (b, o).1 ∉ X.fs ∧ ∀ v, (b, o).2.data ≠ .cell v := ⟨e, f.1, f.2.1, f.2.2.1, d⟩

section
variable {X : Cx} {pins : List (Addr × Obj)} {σ : St} {H : Hp} {s : Shared} {A : Around} {E : Value → Shared → Prop} {a kS : Addr} {b : Bool} {vs : List Value} {kz : List Int} {keys : Array Value} {e e1 : Nat} {P : PySem.Fin → Shared → Prop}

/-- a record of ours is changed -/
theorem Inv.own1 {c : Addr} {h' : Heap} (I : Inv X pins σ H s) (f : FpOk X pins H c) (hs : Heap.SameBut c s.heap h') : Inv X pins σ H { s with heap := h' } :=
  I.turned (t' := s.toks) (it := c) (fun d o hd q => (hs.2 d hd).trans q) f.1 f.2.1 f.2.2.2.1 f.2.2.2.2.1 f.2.2.2.2.2

/-- a record of ours, younger than the entry, is tracked from here on -/
theorem Inv.track {D : Addr} {o : HO} (I : Inv X pins σ H s) (f : FpOk X pins H D) (hD : X.s₀.heap.objs.size ≤ D) (new : ObjOk X.prog X.w (upd H D o) s.heap D o) : Inv X pins σ (upd H D o) s := by
  have ne : ∀ c u, H c = some u → c ≠ D := fun c u q => ne_of_none q f.1
  refine ⟨I.ok, I.os, I.bare, ⟨I.base.keep, I.base.slot, fun c ob q n hx => ?_, I.base.there, fun c xs q => ?_, fun c ob u q => ?_, fun c ps q => ?_⟩, I.loc, I.cell, ?_, fun x c q => ?_, fun p hp => ?_, fun c u q => ?_, I.len⟩
  · rw [upd_ne (Nat.ne_of_lt (Nat.lt_of_lt_of_le (Heap.lt_size q) hD))]
    exact I.base.free c ob q n hx
  · have z := I.base.tups c xs q
    rw [upd_ne (ne c _ z)]; exact z
  · have z := I.base.frzs c ob u q
    rw [upd_ne (ne c _ z)]; exact z
  · obtain ⟨more, z⟩ := I.base.tbls c ps q
    exact ⟨more, by rw [upd_ne (ne c _ z)]; exact z⟩
  · rw [upd_ne (Ne.symm f.2.1)]; exact I.free
  · rw [upd_ne (f.2.2.2.2.1 x c q)]; exact I.freeC x c q
  · obtain ⟨p1, p2, p3⟩ := I.pin p hp
    exact ⟨p1, by rw [upd_ne (f.2.2.2.2.2 p hp)]; exact p2, p3⟩
  · by_cases hc : c = D
    · subst hc; rw [upd_same] at q; cases q; exact new
    · rw [upd_ne hc] at q
      exact (I.hok c u q).stay (fun _ _ _ r => r) (fun d r => by rw [upd_ne (ne d _ r)]; exact r) fun d xs r => by rw [upd_ne (ne d _ r)]; exact r

theorem skey_tail {st : SortSt} (I : Inv X pins σ H s) (fk : FpOk X pins H kS) (fa : FpOk X pins H a) (hka : kS ≠ a) (nk : s.heap.get? kS = some (seqObj "list" keys e)) (na : s.heap.get? a = some (seqObj "list" #[] e1))
    (hk : IntsAre keys.toList kz) (hlen : kz.length = vs.length) (h64 : vs.length < 64) (hp : (arrOf st).Perm (keys.zip vs.toArray)) (hs : SortedTo (arrOf st) (arrOf st).size) (hfl : failedOf st = none)
    (h : ∀ s' out c, Inv X pins σ H s' → s'.heap.get? a = some (seqObj "list" out c) → KskOut b kz vs out.toList → P (.done (.ret .none)) s') :
    wpAny (model X.prog X.w) A (ksk_tail a b e1 (.ref kS) st) P E s := by
  have hsz : keys.size = vs.length := by
    have h1 := hk.length
    rw [Array.length_toList] at h1
    omega
  have hsz2 : (arrOf st).size = vs.length := by rw [hp.size_eq, Array.size_zip, hsz, List.size_toArray, Nat.min_self]
  have hout : (if b then ((arrOf st).map (·.2)).reverse else (arrOf st).map (·.2)).size = vs.length := by
    cases b with
    | false => simp only [Bool.false_eq_true, if_false, Array.size_map]; exact hsz2
    | true => simp only [if_true, Array.size_reverse, Array.size_map]; exact hsz2
  have s1 := Heap.SameBut.update s.heap kS (Obj.mapSeq fun _ => (#[] : Array Value))
  have na1 : (s.heap.update kS (Obj.mapSeq fun _ => (#[] : Array Value))).get? a = some (seqObj "list" #[] e1) := (s1.2 a hka.symm).trans na
  have s2 := Heap.SameBut.update (s.heap.update kS (Obj.mapSeq fun _ => (#[] : Array Value))) a (Obj.mapSeq fun _ => if b then ((arrOf st).map (·.2)).reverse else (arrOf st).map (·.2))
  obtain ⟨c2, hc2⟩ : ∃ c2, ((s.heap.update kS (Obj.mapSeq fun _ => (#[] : Array Value))).update a (Obj.mapSeq fun _ => if b then ((arrOf st).map (·.2)).reverse else (arrOf st).map (·.2))).get? a = some (seqObj "list" (if b then ((arrOf st).map (·.2)).reverse else (arrOf st).map (·.2)) c2) :=
    ⟨_, get?_update_seq na1 fun _ => if b then ((arrOf st).map (·.2)).reverse else (arrOf st).map (·.2)⟩
  have I1 := I.own1 fk s1
  have I2 := I1.own1 fa s2
  unfold ksk_tail
  try dsimp only
  refine wpAny_bind (listUpdate_at nk rfl ?_ (by rw [hsz, sizeLine_eq]; omega) (Nat.zero_le _))
  refine wpAny_bind (wpAny_letGo ?_)
  refine wpAny_bind (seqEpoch_at na1 rfl ?_)
  refine wpAny_bind (listUpdate_at na1 rfl ?_ (Nat.zero_le _) (Nat.le_trans (Nat.le_of_eq hout) (by rw [sizeLine_eq]; omega)))
  rw [hfl]
  simp only [bne_self_eq_false, Bool.false_eq_true, if_false]
  exact wpAny_pure (h _ _ c2 I2 hc2 (ksk_out hk hp hs))

theorem skey_end (I : Inv X pins σ H s) (fk : FpOk X pins H kS) (fa : FpOk X pins H a) (hka : kS ≠ a) (nk : s.heap.get? kS = some (seqObj "list" keys e)) (na : s.heap.get? a = some (seqObj "list" #[] e1))
    (hk : IntsAre keys.toList kz) (hlen : kz.length = vs.length) (h64 : vs.length < 64)
    (h : ∀ s' out c, Inv X pins σ H s' → s'.heap.get? a = some (seqObj "list" out c) → KskOut b kz vs out.toList → P (.done (.ret .none)) s') :
    wpAny (model X.prog X.w) A (ksk_end a b vs.toArray e1 (.ref kS) keys) P E s := by
  have hsz : keys.size = vs.length := by
    have h1 := hk.length
    rw [Array.length_toList] at h1
    omega
  have hzs : (keys.zip vs.toArray).size = vs.length := by rw [Array.size_zip, hsz, List.size_toArray, Nat.min_self]
  have step : ∀ t : Sem PySem.Fin, wpAny (model X.prog X.w) A t P E s → wpAny (model X.prog X.w) A (if b = true then (do let _ ← rule "list.sort.reverse"; t) else t) P E s := by
    intro t ht
    split
    · exact wpAny_bind (wpAny_rule ht)
    · exact ht
  have hstart : (if b = true then (keys.zip vs.toArray).reverse else keys.zip vs.toArray).Perm (keys.zip vs.toArray) := by
    cases b with
    | false => exact Array.Perm.refl _
    | true => exact Array.perm_iff_toList_perm.mpr (by rw [if_pos rfl, Array.toList_reverse]; exact List.reverse_perm _)
  unfold ksk_end
  try dsimp only
  refine step _ ?_
  by_cases h2 : vs.toArray.size < 2
  · rw [if_pos h2, if_pos h2]
    refine wpAny_bind (wpAny_pure ?_)
    rw [StateT.run_pure]
    refine wpAny_bind (wpAny_pure ?_)
    try dsimp only
    refine skey_tail (st := SortSt.mk' general' (if b = true then (keys.zip vs.toArray).reverse else keys.zip vs.toArray) #[] 7 none) I fk fa hka nk na hk hlen h64 hstart ?_ rfl h
    intro i j hij hj
    have hj2 : j < (if b = true then (keys.zip vs.toArray).reverse else keys.zip vs.toArray).size := hj
    rw [hstart.size_eq, hzs] at hj2
    rw [List.size_toArray] at h2
    have : i = j := by omega
    subst this
    exact Int.le_refl _
  · rw [if_neg h2, if_neg h2]
    rw [List.size_toArray] at h2
    rw [ksk_kind hk (by rw [hsz]; omega)]
    refine wpAny_bind (wpAny_pure ?_)
    refine wpAny_bind (wpAny_mono (wpS_sortRuns (a₀ := keys.zip vs.toArray) (st := SortSt.mk' oneType' (if b = true then (keys.zip vs.toArray).reverse else keys.zip vs.toArray) #[] 7 none)
      (Q := fun _ st' => (arrOf st').Perm (keys.zip vs.toArray) ∧ failedOf st' = none ∧ SortedTo (arrOf st') (keys.zip vs.toArray).size)
      (ksk_intKeys hk) ⟨hstart, rfl, rfl, rfl⟩ (by rw [hzs]; omega) (by rw [hzs]; exact h64) fun st' a1 a2 a3 => ⟨a1, a2, a3⟩) ?_ fun _ _ e => e)
    rintro ⟨⟨⟩, st'⟩ s' ⟨rfl, hp, hf, hs⟩
    try dsimp only
    exact skey_tail I fk fa hka nk na hk hlen h64 hp (by rw [hp.size_eq]; exact hs) hf h

/-- the key function, called on an item, hands back k and leaves all as it was -/
def KeyTurn (X : Cx) (pins : List (Addr × Obj)) (σ : St) (H : Hp) (A : Around) (f v : Value) (k : Int) : Prop :=
  ∀ s' pl, Inv X (pins ++ pl) σ H s' → wpAny (model X.prog X.w) A (call f [v]) (fun u s'' => RelV (.int k) u ∧ Inv X (pins ++ pl) σ H s'') (fun _ _ => False) s'

theorem skey_rest {f : Value} (I : Inv X pins σ H s) (fk : FpOk X pins H kS) (fa : FpOk X pins H a) (hka : kS ≠ a) (nk : s.heap.get? kS = some (seqObj "list" #[] 0)) (na : s.heap.get? a = some (seqObj "list" #[] e1))
    (hlen : kz.length = vs.length) (h64 : vs.length < 64)
    (turn : ∀ (i : Nat) (v : Value) (k : Int), vs[i]? = some v → kz[i]? = some k → KeyTurn X pins σ H A f v k)
    (h : ∀ s' out c, Inv X pins σ H s' → s'.heap.get? a = some (seqObj "list" out c) → KskOut b kz vs out.toList → P (.done (.ret .none)) s') :
    wpAny (model X.prog X.w) A (ksk_rest a f b vs.toArray e1 (.ref kS)) P E s := by
  unfold ksk_rest
  refine wpAny_bind (wpAny_rule ?_)
  first
    | rw [List.forIn_toArray]
    | (rw [← Array.forIn_toList]; simp only [List.toList_toArray])
    | rw [← Array.forIn_toList]
  refine wpAny_bind (ksk_fold (fun i s' => ∃ kA e, Inv X pins σ H s' ∧ s'.heap.get? kS = some (seqObj "list" kA e) ∧ s'.heap.get? a = some (seqObj "list" #[] e1) ∧ IntsAre kA.toList (kz.take i)) vs 0 s
    ⟨#[], 0, I, nk, na, by simpa using IntsAre.nil⟩ ?step ?done)
  case step =>
    rintro j x s' hx ⟨kA, e, I', nk', na', hk⟩
    simp only [Nat.zero_add] at hk ⊢
    have hj : j < vs.length := (List.getElem?_eq_some_iff.mp hx).1
    obtain ⟨k, hkj⟩ : ∃ k, kz[j]? = some k := ⟨_, List.getElem?_eq_getElem (by omega)⟩
    have hz : kA.size ≤ vs.length := by
      have h1 := hk.length
      rw [Array.length_toList, List.length_take] at h1
      omega
    have Ip : Inv X (pins ++ [(kS, seqObj "list" kA e), (a, seqObj "list" #[] e1)]) σ H s' := I'.pins_of fun p hp => by
      rcases List.mem_append.mp hp with z | z
      · exact I'.pin p (List.mem_append_right _ z)
      · rcases List.mem_cons.mp z with z | z
        · rw [z]; exact fk.pin1 I' nk' fun v z => nomatch z
        · rw [List.mem_singleton.mp z]; exact fa.pin1 I' na' fun v z => nomatch z
    refine wpAny_bind (wpAny_attempt (wpAny_mono (turn j x k hx hkj s' _ Ip) (fun v s'' he => ?_) fun _ _ hF => hF.elim))
    obtain ⟨⟨t2, rfl⟩, I2⟩ := he
    try dsimp only
    have nk2 : s''.heap.get? kS = some (seqObj "list" kA e) := (I2.pin (kS, seqObj "list" kA e) (List.mem_append_right _ (List.mem_append_right _ (.head _)))).1
    have na2 : s''.heap.get? a = some (seqObj "list" #[] e1) := (I2.pin (a, seqObj "list" #[] e1) (List.mem_append_right _ (List.mem_append_right _ (.tail _ (.head _))))).1
    have s1 := Heap.SameBut.update s''.heap kS (Obj.mapSeq (·.push (.int k t2)))
    obtain ⟨c2, hc2⟩ : ∃ c2, (s''.heap.update kS (Obj.mapSeq (·.push (.int k t2)))).get? kS = some (seqObj "list" (kA.push (.int k t2)) c2) := ⟨_, get?_update_seq nk2 (·.push (.int k t2))⟩
    have ek : kz.take (j + 1) = kz.take j ++ [k] := by rw [List.take_add_one, hkj]; simp
    have ea : (kA.push (Value.int k t2)).toList = kA.toList ++ [Value.int k t2] := by simp
    refine wpAny_bind (listUpdate_at nk2 rfl ?_ (by rw [sizeLine_eq]; omega) (Nat.le_trans (Nat.le_of_eq (Array.size_push ..)) (by rw [sizeLine_eq]; omega)))
    exact wpAny_pure ⟨rfl, kA.push (.int k t2), c2, I2.unpinned.own1 fk s1, hc2, (s1.2 a hka.symm).trans na2, by rw [ea, ek]; exact ksk_snoc hk⟩
  case done =>
    rintro s' ⟨kA, e, I', nk', na', hk⟩
    have hk' : IntsAre kA.toList kz := by
      have e3 : kz.take (0 + vs.length) = kz := List.take_of_length_le (by omega)
      rw [e3] at hk
      exact hk
    try dsimp only
    refine wpAny_bind (listItems_at nk' rfl ?_)
    exact skey_end I' fk fa hka nk' na' hk' hlen h64 h

theorem skey_sort {f : Value} {n : Nat} (I : Inv X pins σ H s) (fa : FpOk X pins H a) (ho : s.heap.get? a = some (seqObj "list" vs.toArray n))
    (hlen : kz.length = vs.length) (h64 : vs.length < 64)
    (turn : ∀ (i : Nat) (v : Value) (k : Int), vs[i]? = some v → kz[i]? = some k → KeyTurn X pins σ H A f v k)
    (h : ∀ s' out c, Inv X pins σ H s' → s'.heap.get? a = some (seqObj "list" out c) → KskOut b kz vs out.toList → P (.done (.ret .none)) s') :
    wpAny (model X.prog X.w) A (ksk_tree a f b) P E s := by
  have ha : a < s.heap.objs.size := Heap.lt_size ho
  have s1 := Heap.SameBut.update s.heap a (Obj.mapSeq fun _ => (#[] : Array Value))
  obtain ⟨e1, ho1⟩ : ∃ e1, (s.heap.update a (Obj.mapSeq fun _ => (#[] : Array Value))).get? a = some (seqObj "list" #[] e1) := ⟨_, get?_update_seq ho fun _ => #[]⟩
  have I1 := I.own1 fa s1
  have hkS : ((s.heap.update a (Obj.mapSeq fun _ => (#[] : Array Value))).push (seqObj "tuple" vs.toArray 0)).objs.size = s.heap.objs.size + 1 := by rw [size_push', Heap.size_update]
  have I3 : Inv X pins σ H { s with heap := ((s.heap.update a (Obj.mapSeq fun _ => (#[] : Array Value))).push (seqObj "tuple" vs.toArray 0)).push (seqObj "list" #[] 0) } :=
    I1.kept (t' := s.toks) fun c o q => Heap.get?_push_of_some _ (Heap.get?_push_of_some _ q)
  have fk : FpOk X pins H ((s.heap.update a (Obj.mapSeq fun _ => (#[] : Array Value))).push (seqObj "tuple" vs.toArray 0)).objs.size := by
    rw [hkS]
    exact I.fpOk (Nat.le_succ _) (I.hok.fresh (Nat.le_succ _))
  unfold ksk_tree
  refine wpAny_bind (listItems_at ho rfl ?_)
  refine wpAny_bind (listUpdate_at ho rfl ?_ (by rw [List.size_toArray, sizeLine_eq]; omega) (Nat.zero_le _))
  refine wpAny_bind (seqEpoch_at ho1 rfl ?_)
  refine wpAny_bind (wpAny_newTuple ?_ (by show vs.length ≤ _; rw [sizeLine_eq]; omega))
  refine wpAny_bind (wpAny_newList ?_ (Nat.zero_le _))
  refine wpAny_holding ?_
  exact skey_rest (s := { s with heap := ((s.heap.update a (Obj.mapSeq fun _ => (#[] : Array Value))).push (seqObj "tuple" vs.toArray 0)).push (seqObj "list" #[] 0) }) (kS := ((s.heap.update a (Obj.mapSeq fun _ => (#[] : Array Value))).push (seqObj "tuple" vs.toArray 0)).objs.size)
    I3 fk fa (by rw [hkS]; exact Nat.ne_of_gt (Nat.lt_succ_of_lt ha)) (Heap.get?_push_size _ rfl) (Heap.get?_push_of_some _ (Heap.get?_push_of_some _ ho1)) hlen h64 turn h
end

section
variable {X : Cx} {pins : List (Addr × Obj)} {σ : St} {H : Hp} {s : Shared} {E : Value → Shared → Prop}

theorem sorted_key {l f : Addr} {ns : List Int} {g : Int → Int} {Q : Value → Shared → Prop} (I : Inv X pins σ H s) (hl : SqL X.K H l (ns.map V.int)) (h64 : ns.length < 64)
    (turn : ∀ (n : Int) (t : Tok), n ∈ ns → KeyTurn X pins σ H X.A.in1.in1 (.ref f) (.int n t) (g n))
    (done : ∀ (D : Addr) (ns' : List Int) (s' : Shared), H D = none → ns'.Perm ns → ns'.Pairwise (fun x y => g x ≤ g y) → Inv X pins σ (upd H D (.lst (ns'.map V.int))) s' → Q (.ref D) s') :
    wpAny (model X.prog X.w) X.A (call (.builtin "sorted") [.ref l] [(Str.ofString "key", .ref f)]) Q E s := by
  obtain ⟨vs, rvs, pl, _⟩ := I.list hl
  have hi : IntsAre vs ns := intsAre_of rvs
  have hlen := hi.length
  have hlz : (ns.map g).length = vs.length := by rw [List.length_map, hlen]
  refine call_function_entry_kw kind_sorted plain_sorted entry_sorted (ksk_s1 _ _) ?_
  unfold Builtin.«sorted»
  refine wpAny_bind (m := checkCount "sorted" 1 1 _) (wpAny_pure ?_)
  refine wpAny_bind (collect_list pl.isList ?_ (by rw [sizeLine_eq]; omega))
  refine wpAny_bind (wpAny_newList ?_ (by rw [sizeLine_eq]; omega))
  have hsz : ((s.heap.push (seqObj "list" #[] 0)).update s.heap.objs.size (Obj.mapSeq (· ++ vs.toArray))).objs.size = s.heap.objs.size + 1 := by
    rw [Heap.size_update, size_push']
  have hoL : (((s.heap.push (seqObj "list" #[] 0)).update s.heap.objs.size (Obj.mapSeq (· ++ vs.toArray))).push (seqObj "list" vs.toArray 0)).get? (s.heap.objs.size + 1) = some (seqObj "list" vs.toArray 0) := by
    rw [← hsz]; exact Heap.get?_push_size _ rfl
  have keep : ∀ b o, s.heap.get? b = some o → (((s.heap.push (seqObj "list" #[] 0)).update s.heap.objs.size (Obj.mapSeq (· ++ vs.toArray))).push (seqObj "list" vs.toArray 0)).get? b = some o := fun b o q => by
    have hlt : b < s.heap.objs.size := Heap.lt_size q
    rw [Heap.get?_push_ne _ _ _ (by rw [hsz]; exact Nat.ne_of_lt (Nat.lt_succ_of_lt hlt)), Heap.get?_update_ne _ _ _ _ (Nat.ne_of_lt hlt), Heap.get?_push_ne _ _ _ (Nat.ne_of_lt hlt)]
    exact q
  have I1 : Inv X pins σ H { s with heap := ((s.heap.push (seqObj "list" #[] 0)).update s.heap.objs.size (Obj.mapSeq (· ++ vs.toArray))).push (seqObj "list" vs.toArray 0) } := I.kept (t' := s.toks) keep
  have hD : H (s.heap.objs.size + 1) = none := I.hok.fresh (Nat.le_succ _)
  have fa : FpOk X pins H (s.heap.objs.size + 1) := I.fpOk (Nat.le_succ _) hD
  show wpAny _ _ _ _ _ { s with heap := ((s.heap.push (seqObj "list" #[] 0)).update s.heap.objs.size (Obj.mapSeq (· ++ vs.toArray))).push (seqObj "list" vs.toArray 0) }
  rw [hsz]
  refine wpAny_bind (wpAny_holding (wpAny_call_entry_kw slot_list_sort ⟨_, hoL, rfl⟩ entry_list_sort ?body (ksk_l1 _ _)))
  case body =>
    show wpAny (model X.prog X.w) X.A.in1.in1 (Builtin.«list.sort» ⟨[.ref (s.heap.objs.size + 1)], [(Str.ofString "key", .ref f)]⟩) _ _ _
    rw [ksk_t1]
    refine skey_sort (s := { s with heap := ((s.heap.push (seqObj "list" #[] 0)).update s.heap.objs.size (Obj.mapSeq (· ++ vs.toArray))).push (seqObj "list" vs.toArray 0) }) (kz := ns.map g) I1 fa hoL hlz (by omega) (fun i v k hv hk => ?_) fun s' out c I' ho' ko => ⟨_, rfl, ?_⟩
    · rw [List.getElem?_map] at hk
      cases q : ns[i]? with
      | none => rw [q] at hk; simp at hk
      | some n =>
        rw [q] at hk
        have hk' : some (g n) = some k := hk
        cases hk'
        obtain ⟨t, ht'⟩ := hi.get i n q
        rw [ht'] at hv
        cases hv
        exact turn n t (List.mem_of_getElem? q)
    · obtain ⟨ps, hp, ho, hs⟩ := ko
      have hrel : ∀ p, p ∈ (ns.map g).zip vs → p.1 = g (numOf p.2) ∧ p.2 ∈ vs := by
        rw [← hi.nums, List.map_map, List.zip_map_left]
        intro p hp
        obtain ⟨⟨u, v⟩, hq, rfl⟩ := List.mem_map.mp hp
        have h1 : u = v ∧ u ∈ vs := mem_zip_self hq
        refine ⟨?_, ?_⟩
        · show g (numOf u) = g (numOf v)
          rw [h1.1]
        · show v ∈ vs
          rw [← h1.1]
          exact h1.2
      have hI : IntsAre (ps.map Prod.snd) ((ps.map Prod.snd).map numOf) := intsAre_map _ fun v hv => by
        obtain ⟨p, hp', rfl⟩ := List.mem_map.mp hv
        exact hi.all _ (hrel p (hp.mem_iff.mp hp')).2
      have hP : ((ps.map Prod.snd).map numOf).Perm ns := by
        have h1 := (hp.map Prod.snd).map numOf
        rw [List.map_snd_zip (by rw [List.length_map]; omega), hi.nums] at h1
        exact h1
      have hO : ((ps.map Prod.snd).map numOf).Pairwise (fun x y => g x ≤ g y) := by
        rw [List.pairwise_map, List.pairwise_map]
        refine hs.imp_of_mem fun {p q} hp' hq' hr => ?_
        have hr' : p.1 ≤ q.1 := hr
        rw [(hrel p (hp.mem_iff.mp hp')).1, (hrel q (hp.mem_iff.mp hq')).1] at hr'
        exact hr'
      rw [← ho] at hI hP hO
      have hl2 : (out.toList.map numOf).length ≤ sizeLine := by
        rw [hP.length_eq, sizeLine_eq]; omega
      refine wpAny_pure ⟨_, rfl, done _ _ s' hD hP hO (I'.track fa (Nat.le_trans I.sz (Nat.le_succ _)) ?_)⟩
      refine ⟨by rw [List.length_map]; exact hl2, out.toList, c, vals_ints hI, ?_⟩
      rw [Array.toArray_toList]
      exact ho'
end
end L2

set_option Elab.async false
set_option linter.all false
set_option maxRecDepth 100000
set_option maxHeartbeats 4000000
namespace L2
open PySem PySem.Spec PyProof.Rows

/-! ### sorted(arg, key=lambda x: body) -/
theorem closAt_of {X : Cx} {scope : Scope} {cl : List (Str × Addr)} {fr : List Str} {bs : List (Option Nat)} {pins : List (Addr × Obj)} {σ : St} {H : Hp} {s : Shared} {fv : List V} (B : Blk X scope cl fr bs) (I : Inv X pins σ H s) (hfv : bst bs σ = fv.map some) : ClosAt cl H s.heap fr fv := by
  refine ⟨?_, fun i y v e1 e2 => ?_⟩
  · have h := congrArg List.length hfv
    unfold bst at h
    rw [List.length_map, List.length_map, B.bs.len] at h
    exact h
  · have e3 : (bst bs σ)[i]? = some (some v) := by rw [hfv, List.getElem?_map, e2]; rfl
    unfold bst at e3
    rw [List.getElem?_map] at e3
    cases q : bs[i]? with
    | none => rw [q] at e3; cases e3
    | some o =>
      rw [q] at e3
      cases o with
      | none => cases e3
      | some j =>
        obtain ⟨x, y1, y2, y3, y4⟩ := B.bs.get q
        rw [e1] at y1
        cases y1
        have e4 : σ[j]? = some (some v) := by
          have z : (σ[j]?).join = some v := Option.some.inj e3
          cases w : σ[j]? with
          | none => rw [w] at z; cases z
          | some o => rw [w] at z; rw [show o = some v from z]
        obtain ⟨mx, hmx, lx⟩ := I.loc
        obtain ⟨u, r, l⟩ := lx j y v y2 e4 (.inr (.inl y3))
        rcases l with ⟨l1, _⟩ | ⟨_, c, l2, l3⟩
        · have l1' : X.env.scope.names.lookup y = some .local := l1
          rw [y3] at l1'
          cases l1'
        · obtain ⟨c', h'⟩ := Option.isSome_iff_exists.mp (B.cl2 (y, .free) (PySem.mem_of_lookup y4) rfl)
          have h2 := B.c1 h'
          rw [l2] at h2
          cases h2
          exact ⟨u, c, r, h', l3⟩

def tSortLam (K : PySem.W.Frag) (P : Addr) (lpos : Pos) (qual : Str) (bs : List (Option Nat)) (ta te : TE) : TE := fun σ H Q => ta σ H fun x H1 => ∃ (l : Addr) (ns : List Int) (g : Int → Int) (fv : List V), x = .ref l ∧ SqL K H1 l (ns.map V.int) ∧ ns.length < 64 ∧ TabI P lpos qual H1 ∧ bst bs σ = fv.map some ∧
  ∀ H2, Gr P lpos qual H1 H2 → (∀ n ∈ ns, te (some (.int n) :: fv.map some) H2 fun v H3 => v = .int (g n) ∧ H3 = H2) ∧ ∀ D ns', H2 D = none → List.Perm ns' ns → ns'.Pairwise (fun x y => g x ≤ g y) → Q (.ref D) (upd H2 D (.lst (ns'.map V.int)))

theorem Gr.sqL {K : PySem.W.Frag} {P : Addr} {pos : Pos} {qual : Str} {H H' : Hp} {l : Addr} {xs : List V} (g : Gr P pos qual H H') (t : TabI P pos qual H) (h : SqL K H l xs) : SqL K H' l xs := by
  have np : ∀ o, H l = some o → (∀ ps, o ≠ .tbl ps) → l ≠ P := fun o e n z => by
    subst z
    rcases t with t | ⟨c', t, _⟩
    · rw [e] at t; exact n _ (Option.some.inj t)
    · rw [e] at t; exact n _ (Option.some.inj t)
  rcases h with (h | ⟨o, h⟩) | h
  · exact .inl (.inl (g.keep _ _ h (np _ h fun ps z => nomatch z)))
  · exact .inl (.inr ⟨o, g.keep _ _ h (np _ h fun ps z => nomatch z)⟩)
  · exact .inr h
theorem Gr.sqT {K : PySem.W.Frag} {P : Addr} {pos : Pos} {qual : Str} {H H' : Hp} {l : Addr} {xs : List V} (g : Gr P pos qual H H') (t : TabI P pos qual H) (h : SqT K H l xs) : SqT K H' l xs := by
  have np : ∀ o, H l = some o → (∀ ps, o ≠ .tbl ps) → l ≠ P := fun o e n z => by
    subst z
    rcases t with t | ⟨c', t, _⟩
    · rw [e] at t; exact n _ (Option.some.inj t)
    · rw [e] at t; exact n _ (Option.some.inj t)
  rcases h with (h | ⟨o, h⟩) | h
  · exact .inl (.inl (g.keep _ _ h (np _ h fun ps z => nomatch z)))
  · exact .inl (.inr ⟨o, g.keep _ _ h (np _ h fun ps z => nomatch z)⟩)
  · exact .inr h

def only1 (R : V → Hp → Prop) : List V → Hp → Prop
  | [x], H => R x H
  | _, _ => False
theorem only1_of {R : V → Hp → Prop} : ∀ {vs : List V} {H : Hp}, only1 R vs H → ∃ x, vs = [x] ∧ R x H
  | [x], _, h => ⟨x, rfl, h⟩
  | [], _, h => h.elim
  | _ :: _ :: _, _, h => h.elim

theorem pe_sortLam {X : Cx} {k : Nat} {scope : Scope} {cl : List (Str × Addr)} {fr : List Str} {bs : List (Option Nat)} {x : Str} {params : Arguments} {body arg : Expr} {c P : Addr} {qual : Str} {lpos kpos pos p : Pos} {ta te : TE}
    (B : Blk X scope cl fr bs) (L : Lam x fr params scope) (hbm : BM X.mg X.base) (hcode : X.env.code = .ref c) (hC : PySem.W.codeHdIn X.K c P = true) (hq0 : X.env.qual ++ "<lambda>" = qual) (hdef : defaultsOf params X.env = ([], []))
    (hr : Room (k + 3) X.A) (hg : Gl X "sorted") (hm : X.mg "sorted" = none) (ha : PE X arg ta)
    (hbody : ∀ (f c' : Addr) (A : Around) (s : Shared) (H : Hp), Room k (A.deeper (PySem.W.envX qual scope s.heap.objs.size f (.ref c') cl)) → PE (cxLam X.prog X.w X.K X.mg X.base (x :: fr) qual scope cl f c' A X.stack s H) body te)
    (hs : starEach [arg] X.env = [(false, eval arg X.env)] := by rfl) :
    PE X (.Call (.Name "sorted" p) [arg] [⟨some "key", .Lambda params body scope lpos, kpos⟩] pos) (tSortLam X.K P lpos qual bs ta te) := by
  intro pins s σ H Q I h
  refine wpAny_Call_Name_kw (ld_blt I hg hm boot_sorted ?_)
  refine callWith_kw (id := "sorted") (thn ((pa_cons ha pa_nil hs : PA X [arg] (tCons ta tNil)) pos pins s σ H (only1 fun x H1 => ∃ (l : Addr) (ns : List Int) (g : Int → Int) (fv : List V), x = .ref l ∧ SqL X.K H1 l (ns.map V.int) ∧ ns.length < 64 ∧ TabI P lpos qual H1 ∧ bst bs σ = fv.map some ∧
    ∀ H2, Gr P lpos qual H1 H2 → (∀ n ∈ ns, te (some (.int n) :: fv.map some) H2 fun v H3 => v = .int (g n) ∧ H3 = H2) ∧ ∀ D ns', H2 D = none → List.Perm ns' ns → ns'.Pairwise (fun x y => g x ≤ g y) → Q (.ref D) (upd H2 D (.lst (ns'.map V.int)))) I h) fun us s1 ⟨vs, H1, I1, r1, q1⟩ => ?_) (by rw [hs]; rfl) (by rw [hs]; rfl)
  obtain ⟨x1, rfl, q1⟩ := only1_of q1
  obtain ⟨u1, rfl, ru⟩ := vals1 r1
  obtain ⟨l, ns, g, fv, rfl, hl, h64, htab, hfv, q⟩ := q1
  cases ru
  show wpAny _ _ (evalAll [(do let v ← eval (.Lambda params body scope lpos) X.env; standAt pos; pure v)]) _ _ s1
  refine wpAny_evalAll_cons (wpAny_bind (lam_make I1 hbm B.clos hcode hC hq0 hdef htab fun f c' pm ctv s2 H2 I2 gr hf hfs hfn hc => wpAny_bind (wpAny_standAt (wpAny_pure (wpAny_evalAll_nil ?_)))))
  show wpAny _ _ (call (.builtin "sorted") [.ref l] [(Str.ofString "key", .ref f)]) _ _ s2
  obtain ⟨qk, qd⟩ := q H2 gr
  have ff : FpOk X pins H2 f := I1.fpOk hfs hfn
  have I2' : Inv X (pins ++ [(f, PySem.W.kla_obj "<lambda>" qual params body scope cl pm c' ctv)]) σ H2 s2 := I2.pins_of fun p hp => by
    rcases List.mem_append.mp hp with z | z
    · exact I2.pin p (List.mem_append_right _ z)
    · rw [List.mem_singleton.mp z]
      exact ff.pin1 I2 hf fun v z => nomatch z
  refine sorted_key (g := g) I2' (gr.sqL htab hl) h64 (fun n t hn s' pl I' => ?_) fun D ns' s' hD hP hO I' => ⟨.ref D, _, I'.unpinned, rfl, qd D ns' hD hP hO⟩
  have pf := I'.pin (f, PySem.W.kla_obj "<lambda>" qual params body scope cl pm c' ctv) (List.mem_append_right _ (List.mem_append_left _ (List.mem_append_right _ (.head _))))
  have hcd : s'.heap.CodeRec (.ref c') qual := (show ObjOk X.prog X.w H2 s'.heap c' (TabE qual c') from I'.hok c' _ hc).1
  have hr1 : Room (k + 1) X.A.in1.in1 := (hr.in1).in1
  refine wpAny_call (codeAny_mono (lam_run (v := .int n) L hr1 (I'.env0.in1).in1 pf.1 hcd (fun y z c h1 h2 => I'.ok.inj y z c (B.c1 h1) (B.c1 h2)) B.cl2 (fun y c h => ⟨I'.cell y c (B.c1 h), I'.freeC y c (B.c1 h)⟩) (closAt_of B I' hfv) ⟨t, rfl⟩ (hbody f c' _ s' H2 (hr1.deeper _)) (qk n hn)) fun r s'' hq => ?_)
  cases r with
  | error e => exact hq.elim
  | ok fl =>
    cases fl with
    | next => exact False.elim hq
    | brk => exact False.elim hq
    | cont => exact False.elim hq
    | ret u =>
      obtain ⟨v', H', J, r', rfl, rfl⟩ := I'.after hq
      exact ⟨r', J⟩
end L2

set_option Elab.async false
set_option linter.all false
set_option maxRecDepth 100000
set_option maxHeartbeats 4000000
namespace L2
open PySem PySem.Spec PyProof.Rows
section
variable {X : Cx}

/-! ### isinstance(x, T), T a builtin type -/
theorem call_isinst : CallR X (.builtin "isinstance") (fun xs H Q => ∃ x n t b, xs = [x, .ty n] ∧ TyOf X.K H x t ∧ PySem.W.kitOne X.K t (.type n) = some b ∧ Q (.bl b) H) := by
  intro pins s σ H xs us Q I r h
  obtain ⟨x, n, t, b, rfl, ty, e, q⟩ := h
  obtain ⟨u, w', rfl, rx, ry⟩ := vals2 r
  cases (show w' = Value.type n from ry)
  exact isinst_ok I rx ty e fun tk => ⟨.bl b, H, I.tok tk, rfl, q⟩

/-! ### all(list of bools) -/
theorem bools_of {bs : List Bool} : ∀ {us : List Value}, Vals (bs.map V.bl) us → PyProof.Rows.LSm.BoolsAre us bs := by
  induction bs with
  | nil => intro us r; cases r; exact .nil
  | cons b bs ih =>
    intro us r
    cases r with
    | cons h t =>
      cases (show _ = Value.bool b from h)
      exact .cons b (ih t)

/-! ### {} -/
theorem Inv.big {pins : List (Addr × Obj)} {σ : St} {H : Hp} {s : Shared} (I : Inv X pins σ H s) : sysModules < s.heap.objs.size := by
  have h : mainGlobals < s.heap.objs.size := (I.mod.glob.keeps I.bk).lt
  exact Nat.lt_trans (by decide) h
theorem dk_empty {P : Program} {w : World} {H : Hp} (h : Heap) (hb : sysModules < h.objs.size) : ObjOk P w H (h.push { cls := .type "dict", data := .dict #[] }) h.objs.size (.dK []) :=
  ⟨Nat.zero_le _, beq_eq_false_iff_ne.mpr (Ne.symm (Nat.ne_of_lt hb)), [], .nil, Heap.DictOf.new h⟩
def tDNewK : TE := fun _ H Q => ∀ p, H p = none → Q (.ref p) (upd H p (.dK []))
theorem pe_dnewK {pos : Pos} : PE X (.Dict [] [] pos) tDNewK := fun pins s σ H Q I h =>
  wpAny_Dict_empty ⟨.ref s.heap.objs.size, _, I.laid (a := s.heap.objs.size) (o := .dK []) (t' := s.toks) (fun _ _ q => Heap.get?_push_of_some _ q) (Nat.le_refl _) (dk_empty s.heap I.big), rfl, h _ (I.hok.fresh (Nat.le_refl _))⟩

/-! ### is not True -/
theorem op_isnot_bl : OpR X (compareOp .IsNot) (fun x y H Q => ∃ i j, x = .bl i ∧ y = .bl j ∧ Q (.bl (!decide (i = j))) H) := by
  intro pins s σ H x y v u Q I rx ry h
  obtain ⟨i, j, rfl, rfl, q⟩ := h
  cases (show v = Value.bool i from rx)
  cases (show u = Value.bool j from ry)
  refine wpAny_isNot_plain rfl ⟨.bl _, H, I, ?_, q⟩
  cases i <;> cases j <;> rfl

/-! ### () + t -/
def rCatT0 (K : PySem.W.Frag) : R2 := fun x y H Q => ∃ a b ys, x = .ref a ∧ y = .ref b ∧ SqT K H a [] ∧ SqT K H b ys ∧ Q (.ref b) H
theorem op_catT0 : OpR X (binaryOp .Add) (rCatT0 X.K) := by
  intro pins s σ H x y v u Q I rx ry h
  obtain ⟨a, b, ys, rfl, rfl, ha, hb, q⟩ := h
  cases rx
  cases ry
  obtain ⟨its, r1, p1, _⟩ := I.tuple ha
  obtain ⟨its2, r2, p2, _⟩ := I.tuple hb
  have e0 : its = [] := r1.nil_iff.mpr rfl
  subst e0
  obtain ⟨⟨cls, dd, data, sl⟩, ho, hc, n, hd⟩ := id p1
  obtain ⟨⟨cls2, dd2, data2, sl2⟩, ho2, hc2, n2, hd2⟩ := id p2
  simp only at hc hd hc2 hd2
  subst hc hd hc2 hd2
  exact concat_meets ⟨_, ho, rfl⟩ ⟨_, ho2, rfl⟩ noFill_tuple_add seq_tuple_add PySem.F.slot_tuple_add PySem.F.entry_tuple_add (PySem.F.args_tuple_add_2 _ _)
      (tuple_addW0 a b _ its2.toArray n n2 dd dd2 sl sl2 (by simp)) ⟨ho, ho2, ⟨.ref b, H, I, rfl, q⟩⟩

/-! ### range(n), list(range(n)) -/
theorem vals_of_get : ∀ {xs : List V} {us : List Value}, xs.length = us.length → (∀ (i : Nat) x u, xs[i]? = some x → us[i]? = some u → RelV x u) → Vals xs us
  | [], [], _, _ => .nil
  | [], _ :: _, h, _ => by simp at h
  | _ :: _, [], h, _ => by simp at h
  | x :: xs, u :: us, h, k => .cons (k 0 x u rfl rfl) (vals_of_get (by simpa using h) fun i y w e1 e2 => k (i + 1) y w (by simpa using e1) (by simpa using e2))
theorem call_rng : CallR X (.type "range") (fun xs H Q => ∃ j, xs = [.int j] ∧ ∀ p, H p = none → Q (.ref p) (upd H p (.rng 0 j))) := by
  intro pins s σ H xs us Q I r h
  obtain ⟨j, rfl, q⟩ := h
  obtain ⟨u, rfl, rx⟩ := vals1 r
  obtain ⟨t, rfl⟩ := rx
  refine call_range_1 ?_
  exact ⟨.ref s.heap.objs.size, _, I.laid (a := s.heap.objs.size) (o := .rng 0 j) (fun _ _ q => Heap.get?_push_of_some _ q) (Nat.le_refl _) ⟨_, _, _, Heap.get?_push_size _ rfl⟩, rfl, q _ (I.hok.fresh (Nat.le_refl _))⟩
def nUpTo (n : Nat) : List Int := (List.range n).map fun i : Nat => (i : Int)
theorem call_listRng (hc : X.calm = true) : CallR X (.type "list") (fun xs H Q => ∃ p, ∃ n : Nat, xs = [.ref p] ∧ H p = some (.rng 0 n) ∧ n ≤ 1000000 ∧ ∀ l, H l = none → Q (.ref l) (upd H l (.lst ((nUpTo n).map V.int)))) := by
  intro pins s σ H xs us Q I r h
  obtain ⟨p, n, rfl, hp, hn, q⟩ := h
  obtain ⟨u, rfl, rx⟩ := vals1 r
  cases (show u = Value.ref p from rx)
  obtain ⟨t, t2, t3, e⟩ := (show ObjOk X.prog X.w H s.heap p (.rng 0 n) from I.hok p _ hp)
  refine call_list_range (r := p) (a := 0) (b := n) (c := 1) (n := n) (I.ok.hd hc) e (small_one (by omega) (by omega) (by omega) (by omega)) (by rw [rangeSize_one]; split <;> omega) (by omega) fun h' tk acc' c' kp e2 it => ?_
  obtain ⟨i1, i2⟩ := it
  have hv : Vals ((nUpTo n).map V.int) acc'.toList := vals_of_get (by simp [nUpTo, i1]) fun i x u e3 e4 => by
    have e5 : acc'[i]? = some u := by simpa using e4
    obtain ⟨t', rfl⟩ := i2 i u e5
    simp only [nUpTo, List.map_map, List.getElem?_map] at e3
    cases q2 : (List.range n)[i]? with
    | none => rw [q2] at e3; cases e3
    | some j =>
      rw [q2] at e3
      have hj : j = i := by
        have := List.getElem?_eq_some_iff.mp q2
        obtain ⟨_, w⟩ := this
        rw [List.getElem_range] at w
        exact w.symm
      subst hj
      cases e3
      exact ⟨t', by simp⟩
  have lz : ((nUpTo n).map V.int).length ≤ sizeLine := by
    simp only [nUpTo, List.length_map, List.length_range]
    rw [sizeLine_eq]; omega
  refine ⟨.ref s.heap.objs.size, _, I.laid (t' := tk) kp (Nat.le_refl _) (show ObjOk X.prog X.w _ h' _ (.lst ((nUpTo n).map V.int)) from ⟨lz, acc'.toList, c', hv, by rw [e2]⟩), rfl, q _ (I.hok.fresh (Nat.le_refl _))⟩

/-! ### all(bs) -/
theorem call_all (hc : X.calm = true) : CallR X (.builtin "all") (fun xs H Q => ∃ p, ∃ bs : List Bool, xs = [.ref p] ∧ SqL X.K H p (bs.map V.bl) ∧ Q (.bl (bs.all id)) H) := by
  intro pins s σ H xs us Q I r h
  obtain ⟨p, bs, rfl, hp, q⟩ := h
  obtain ⟨u, rfl, rx⟩ := vals1 r
  cases (show u = Value.ref p from rx)
  obtain ⟨vs, rv, pl, hz⟩ := I.list hp
  have hb := bools_of rv
  have hl := pl.isList
  have hlt : p < s.heap.objs.size := by obtain ⟨_, e, _⟩ := hl; exact Heap.lt_size e
  refine call_all_walk (wpAny_pyIter_list hl ?_)
  refine ⟨s.heap.objs.size, [s.heap.objs.size, p], [s.heap.objs.size], vs.toArray.size, _, _, fun i => (bs[i]?).getD true, rfl, Walks.list (A := X.A.in1) (I.ok.hd hc) _ p (Nat.ne_of_lt hlt) vs.toArray,
    ⟨⟨_, Heap.get?_push_size _ rfl, rfl, rfl⟩, hl.push _⟩, fun i v s' Q' E' hP hQ => ?_, fun h' tk hk => ?_⟩
  · obtain ⟨b, e, rfl⟩ := hb.get i v (by simpa using hP)
    simp only [e, Option.getD_some] at hQ
    exact wpAny_truthy_bool hQ
  · have hlen : vs.length = bs.length := by have := rv.length; simpa using this.symm
    have e : ((List.range vs.toArray.size).all fun i => (bs[i]?).getD true) = bs.all id := by
      rw [List.size_toArray, hlen, Bool.eq_iff_iff, List.all_eq_true, List.all_eq_true]
      constructor
      · intro h b hb'
        obtain ⟨i, hi, rfl⟩ := List.getElem_of_mem hb'
        have := h i (List.mem_range.mpr hi)
        simpa [List.getElem?_eq_getElem hi] using this
      · intro h i hi
        have hi' := List.mem_range.mp hi
        simp only [List.getElem?_eq_getElem hi', Option.getD_some]
        exact h _ (List.getElem_mem hi')
    rw [e]
    refine ⟨.bl _, H, I.kept (t' := tk) fun b o e2 => hk b o (fun hm => ?_) (Heap.get?_push_of_some _ e2), rfl, q⟩
    rw [List.mem_singleton.mp hm] at e2
    exact Nat.lt_irrefl _ (Heap.lt_size e2)

/-! ### max(nUpTo) -/
theorem call_maxs (hc : X.calm = true) : CallR X (.builtin "max") (fun xs H Q => ∃ p, ∃ ns : List Int, xs = [.ref p] ∧ (SqL X.K H p (ns.map V.int) ∨ SqT X.K H p (ns.map V.int)) ∧ 0 < ns.length ∧ ∀ M, M ∈ ns → (∀ a ∈ ns, a ≤ M) → Q (.int M) H) := by
  intro pins s σ H xs us Q I r h
  obtain ⟨p, ns, rfl, hp, hne, q⟩ := h
  obtain ⟨u, rfl, rx⟩ := vals1 r
  cases (show u = Value.ref p from rx)
  have fin : ∀ (vs : List Value) (it : Obj), Vals (ns.map V.int) vs → (∀ i v, vs.toArray[i]? = some v → ∃ t, v = Value.int (ns.getD i 0) t) → ∀ v h' tk, vs.toArray[argBest (fun i j => decide (ns.getD i 0 > ns.getD j 0)) (vs.toArray.size - 1)]? = some v →
      (∀ b o, b ∉ [s.heap.objs.size] → (s.heap.push it).get? b = some o → h'.get? b = some o) → EP X pins σ Q v { s with heap := h', toks := tk } := by
    intro vs it rv hval v h' tk hP hk
    obtain ⟨t, rfl⟩ := hval _ _ hP
    have hlen : vs.length = ns.length := by have := rv.length; simpa using this.symm
    obtain ⟨h1, h2⟩ := argBest_gt (fun i => ns.getD i 0) (vs.toArray.size - 1)
    rw [List.size_toArray, hlen] at h1 h2
    rw [List.size_toArray, hlen]
    refine ⟨.int _, H, I.kept (t' := tk) fun b o e2 => hk b o (fun hm => ?_) (Heap.get?_push_of_some _ e2), ⟨t, rfl⟩, q _ ?_ fun a ha => ?_⟩
    · rw [List.mem_singleton.mp hm] at e2
      exact Nat.lt_irrefl _ (Heap.lt_size e2)
    · have hlt : argBest (fun i j => decide (ns.getD i 0 > ns.getD j 0)) (ns.length - 1) < ns.length := by omega
      rw [List.getD_eq_getElem?_getD, List.getElem?_eq_getElem hlt]
      exact List.getElem_mem hlt
    · obtain ⟨j, hj, rfl⟩ := List.getElem_of_mem ha
      have := h2 j (by omega)
      rw [List.getD_eq_getElem?_getD, List.getElem?_eq_getElem hj] at this
      exact this
  have hvals : ∀ vs : List Value, Vals (ns.map V.int) vs → ∀ i v, vs.toArray[i]? = some v → ∃ t, v = Value.int (ns.getD i 0) t := by
    intro vs rv i v e
    have e' : vs[i]? = some v := by simpa using e
    have hlen : vs.length = ns.length := by have := rv.length; simpa using this.symm
    have hi : i < ns.length := by rw [← hlen]; exact (List.getElem?_eq_some_iff.mp e').1
    obtain ⟨u, e2, r2⟩ := rv.get (i := i) (x := .int ns[i]) (by rw [List.getElem?_map, List.getElem?_eq_getElem hi]; rfl)
    rw [e'] at e2
    cases e2
    obtain ⟨t, rfl⟩ := r2
    exact ⟨t, by rw [List.getD_eq_getElem?_getD, List.getElem?_eq_getElem hi]; rfl⟩
  have pos : ∀ vs : List Value, Vals (ns.map V.int) vs → 0 < vs.toArray.size := fun vs rv => by
    have := rv.length
    rw [List.length_map] at this
    rw [List.size_toArray]; omega
  rcases hp with hp | hp
  · obtain ⟨vs, rv, pl, hz⟩ := I.list hp
    have hl := pl.isList
    have hlt : p < s.heap.objs.size := by obtain ⟨_, e, _⟩ := hl; exact Heap.lt_size e
    refine call_max_walk (wpAny_pyIter_list hl ?_)
    refine ⟨s.heap.objs.size, [s.heap.objs.size, p], [s.heap.objs.size], _, _, _, _, rfl, Walks.list (A := X.A.in1) (I.ok.hd hc) _ p (Nat.ne_of_lt hlt) vs.toArray, ⟨⟨_, Heap.get?_push_size _ rfl, rfl, rfl⟩, hl.push _⟩, fun b hb => ?_, pos vs rv, CmpOf.ints_gt (fun i => ns.getD i 0) (hvals vs rv), fun v h' tk hP hk => fin vs _ rv (hvals vs rv) v h' tk hP hk⟩
    show b < (s.heap.push _).objs.size
    rw [Heap.size_push]
    simp only [List.mem_cons, List.not_mem_nil, or_false] at hb
    rcases hb with rfl | rfl
    · exact Nat.lt_succ_self _
    · exact Nat.lt_succ_of_lt hlt
  · obtain ⟨vs, rv, pl, hz⟩ := I.tuple hp
    have hl : s.heap.IsTuple p vs.toArray := pl
    have hlt : p < s.heap.objs.size := by obtain ⟨_, e, _⟩ := hl; exact Heap.lt_size e
    refine call_max_walk (wpAny_pyIter_tuple hl ?_)
    refine ⟨s.heap.objs.size, [s.heap.objs.size, p], [s.heap.objs.size], _, _, _, _, rfl, Walks.tuple (A := X.A.in1) (I.ok.hd hc) _ p (Nat.ne_of_lt hlt) vs.toArray, ⟨⟨_, Heap.get?_push_size _ rfl, rfl, rfl⟩, hl.push _⟩, fun b hb => ?_, pos vs rv, CmpOf.ints_gt (fun i => ns.getD i 0) (hvals vs rv), fun v h' tk hP hk => fin vs _ rv (hvals vs rv) v h' tk hP hk⟩
    show b < (s.heap.push _).objs.size
    rw [Heap.size_push]
    simp only [List.mem_cons, List.not_mem_nil, or_false] at hb
    rcases hb with rfl | rfl
    · exact Nat.lt_succ_self _
    · exact Nat.lt_succ_of_lt hlt

/-! ### t * n -/
theorem noFill_tuple_mul : fillsNumberSlot (.type "tuple") "mul" = pure false :=
  PySem.fillsNumberSlot_seq (id := "tuple.__mul__") (r := some (.builtin "tuple.__rmul__")) F.slot_tuple_mul.lookup (by decide +kernel) F.slot_tuple_rmul.lookup (by decide +kernel)
theorem repeat_tuple : seqRepeat? (.type "tuple") = pure (some (.builtin "tuple.__mul__")) := by
  unfold seqRepeat?
  rw [PySem.seqSlot_of (T := "tuple") (name := "__mul__") (id := "tuple.__mul__") F.slot_tuple_mul.lookup (by decide +kernel), PySem.seqSlot_of (T := "tuple") (name := "__rmul__") (id := "tuple.__rmul__") F.slot_tuple_rmul.lookup (by decide +kernel)]
  rfl
theorem int_rmul_tuple (a : Int) (t : Tok) (l : Addr) (items : Array Value) (n : Nat) (dd : Option Addr) (sl : Array (Option Value)) :
    Meets (Builtin.«int.__rmul__» ⟨[.int a t, .ref l], []⟩) (fun _ R s => s.heap.get? l = some { cls := .type "tuple", dict := dd, data := .seq items n, slots := sl } ∧ R (.ok (.ret Value.notImplemented)) s) :=
  .of_wp fun prog w A R s h => by obtain ⟨hp, g, d, tk, os⟩ := s; obtain ⟨hl, h⟩ := h; wp_walk; exact ⟨_, rfl, h⟩
theorem tuple_mulW (l : Addr) (items : Array Value) (n : Nat) (dd : Option Addr) (sl : Array (Option Value)) (x : Int) (u : Tok) (hc0 : ¬ (decide (x < -(2 ^ 63)) || decide (x ≥ 2 ^ 63)) = true) (hc1 : ¬ (items.isEmpty || x == 1) = true) (hc2 : ¬ (decide (x ≤ 0) || items.isEmpty) = true)
    (hc3 : ¬ (items.size : Int) * x > (2 ^ 63 - 1) / 8) (hc4 : ¬ Builtin.Tuple.tupleTooMany ((items.size : Int) * x) = true) (hs0 : (List.foldl (fun x1 x2 => x1 ++ x2) #[] (List.replicate x.toNat items)).size ≤ sizeLine) :
    Meets (Builtin.«tuple.__mul__» ⟨[.ref l, .int x u], []⟩) (fun _ R s => s.heap.get? l = some { cls := .type "tuple", dict := dd, data := .seq items n, slots := sl } ∧ R (.ok (.ret (Value.ref s.heap.objs.size))) { s with heap := s.heap.push { cls := Value.type "tuple", data := Data.seq (List.foldl (fun x1 x2 => x1 ++ x2) #[] (List.replicate x.toNat items)) }, toks := s.toks }) :=
  .of_wp fun prog w A R s h => by
    obtain ⟨hp, g, d, tk, os⟩ := s; obtain ⟨hl, h⟩ := h; have f1 := AutoSeq1.idx_int; have f2 := AutoSeq1.sub_tuple_tuple; have f3 := AutoSeq1.sub_list_list; have f4 := AutoSeq1.sub_tuple_list; have f5 := AutoSeq1.sub_list_tuple
    wp_walk using wpAny_loadPart' hl
    rw [if_neg hc0]
    wp_walk using wpAny_loadPart' hl
    rw [if_neg hc3]
    wp_walk using wpAny_loadPart' hl
    exact ⟨_, rfl, h⟩
def rRepT (K : PySem.W.Frag) : R2 := fun x y H Q => ∃ l k xs, x = .ref l ∧ y = .int k ∧ SqT K H l xs ∧ 1 < k ∧ k < 2 ^ 62 ∧ xs ≠ [] ∧ xs.length * k.toNat ≤ sizeLine ∧ ∀ p, H p = none → Q (.ref p) (upd H p (.tup (List.replicate k.toNat xs).flatten))
theorem op_repT : OpR X (binaryOp .Mult) (rRepT X.K) := by
  intro pins s σ H x y v u Q I rx ry h
  obtain ⟨l, k, xs, rfl, rfl, hS, h1, h2, hne, hz, q⟩ := h
  cases (show v = Value.ref l from rx)
  obtain ⟨t, rfl⟩ := ry
  obtain ⟨its, r, pl, _⟩ := I.tuple hS
  have hl := r.length
  obtain ⟨⟨cls, dd, data, sl⟩, ho, hc, n, hd⟩ := id pl
  simp only at hc hd
  subst hc hd
  have hsz : its.toArray.size * k.toNat ≤ sizeLine := by rw [List.size_toArray, ← hl]; exact hz
  have hne' : its.toArray.isEmpty = false := by
    cases its with
    | nil => exact absurd (r.nil_iff.mp rfl) hne
    | cons a b => rfl
  have hpos : 0 < its.toArray.size := by
    cases its with
    | nil => exact absurd (r.nil_iff.mp rfl) hne
    | cons a b => simp
  have hnew : List.foldl (fun x1 x2 => x1 ++ x2) #[] (List.replicate k.toNat its.toArray) = (List.replicate k.toNat its).flatten.toArray := by
    have := foldl_rep its k.toNat []
    rw [List.nil_append] at this
    exact this
  have hk : ((its.toArray.size : Int)) * k = ((its.toArray.size * k.toNat : Nat) : Int) := by
    rw [Int.natCast_mul]
    congr 1
    omega
  have hline : (sizeLine : Nat) < 2 ^ 60 := by rw [sizeLine_eq]; decide
  have lenR : (List.replicate k.toNat its).flatten.length ≤ sizeLine := by rw [len_rep, Nat.mul_comm]; simpa using hsz
  refine wpAny_binaryOp_repeat_ref (T := "tuple") (U := "int") (by decide) ⟨_, ho, rfl⟩ (fun s' => typeIs_int s' k t) noFill_tuple_mul F.fills_int_mul F.slot_int_rmul repeat_tuple F.slot_int_index.lookup
    (call_meets F.slot_int_rmul (typeIs_int s k t) F.entry_int_rmul (F.args_int_rmul_2 _ _) (int_rmul_tuple k t l its.toArray n dd sl)
      ⟨ho, rfl, ⟨_, ho, rfl⟩, call_meets F.slot_tuple_mul ⟨_, ho, rfl⟩ F.entry_tuple_mul (F.args_tuple_mul_2 _ _) (tuple_mulW l its.toArray n dd sl k t ?c0 ?c1 ?c2 ?c3 ?c4 ?c5) ⟨ho, ?_⟩⟩)
  case c0 => simp; omega
  case c1 => rw [hne']; simp; omega
  case c2 => rw [hne']; simp; omega
  case c3 => rw [hk]; omega
  case c4 => rw [hk]; exact fun z => absurd (of_decide_eq_true z) (Int.not_lt.mpr (Int.ofNat_le.mpr hsz))
  case c5 => rw [hnew, List.size_toArray]; exact lenR
  rw [hnew]
  refine ⟨.ref _, _, I.laid (t' := s.toks) (o := .tup (List.replicate k.toNat xs).flatten) (fun b ob q => Heap.get?_push_of_some _ q) (Nat.le_refl _) ?_, rfl, q _ I.fresh⟩
  exact ⟨by rw [len_rep, Nat.mul_comm]; exact hz, _, r.rep k.toNat, IsTup.new _ _⟩
end
end L2

set_option Elab.async false
set_option linter.all false
set_option maxRecDepth 100000
set_option maxHeartbeats 4000000
namespace L2
open PySem PySem.Spec PyProof.Rows
theorem same_add {H : Hp} {d : Addr} {o : HO} (h : H d = Option.none) : Same H (upd H d o) := fun b u e => by rw [upd_ne (ne_of_none e h)]; exact e
theorem le1000 {n : Nat} (h : Nat.ble n 1000 = true) : n ≤ sizeLine := by
  have := Nat.le_of_ble_eq_true h
  rw [sizeLine_eq]; omega
theorem leMil {n : Nat} (h : n ≤ 100000) : n ≤ sizeLine := by rw [sizeLine_eq]; omega
theorem Same.sqT {K : PySem.W.Frag} {H H' : Hp} {a : Addr} {xs : List V} (e : Same H H') (h : SqT K H a xs) : SqT K H' a xs := by
  rcases h with (h | ⟨o, h⟩) | h
  · exact .inl (.inl (e _ _ h))
  · exact .inl (.inr ⟨o, e _ _ h⟩)
  · exact .inr h

/-! ### argument lists of any length (a look at each item, none at the rest) -/
def plainE : Expr → Bool
  | .Starred _ _ => false
  | _ => true
theorem star_cons {e : Expr} {es : List Expr} {env : Env} (h : plainE e = true) : starEach (e :: es) env = (false, eval e env) :: starEach es env := by
  cases e <;> first | rfl | cases h
theorem star_any {env : Env} {pos : Pos} : ∀ {es : List Expr}, es.all plainE = true → (backTo pos (starEach es env)).any (·.1) = false
  | [], _ => rfl
  | e :: es, h => by
    have h1 : plainE e = true ∧ es.all plainE = true := by simpa [List.all_cons, Bool.and_eq_true] using h
    rw [star_cons h1.1]
    have ih := star_any (env := env) (pos := pos) h1.2
    unfold backTo at ih ⊢
    rw [List.map_cons, List.any_cons, ih]
    rfl
theorem pa_c {X : Cx} {e : Expr} {es : List Expr} {te : TE} {t : TA} (ha : PE X e te) (hr : PA X es t) (hs : plainE e = true := by rfl) : PA X (e :: es) (tCons te t) := pa_cons ha hr (star_cons hs)

/-! ### calls of the text's defs -/
/-- a def of the text, ready to be called -/
structure FnE (P : Program) (w : World) (K : PySem.W.Frag) (mg : Str → Option Value) (base : Heap) (x : Str) (ps : List Str) (k : Nat) (sp : Sp) : Prop where
  ex : ∃ f fd, FnOk P w K mg base CX0 k f fd ps sp ∧ mg x = some (.ref f) ∧ PySem.W.keepIn K (.ref f) = true ∧ Binds K fd ps []
theorem FnE.mono {P : Program} {w : World} {K : PySem.W.Frag} {mg : Str → Option Value} {base : Heap} {x : Str} {ps : List Str} {j k : Nat} {sp : Sp} (F : FnE P w K mg base x ps j sp) (h : j ≤ k) : FnE P w K mg base x ps k sp :=
  let ⟨f, fd, a, b⟩ := F.ex; ⟨f, fd, a.mono h, b⟩
theorem pe_fn {X : Cx} {x : Str} {ps : List Str} {k : Nat} {sp : Sp} {e : Expr} {es : List Expr} {t : TA} {p pos : Pos} (F : FnE X.prog X.w X.K X.mg X.base x ps k sp) (hr : Room k X.A) (ha : PA X (e :: es) t) (hg : Gl X x := by rfl)
    (hdb : (x == ("__debug__" : Str)) = false := by decide) (he : starEach (e :: es) X.env = (false, eval e X.env) :: starEach es X.env := by rfl) (hpl : (backTo pos (starEach es X.env)).any (·.1) = false := by rfl) :
    PE X (.Call (.Name x p) (e :: es) [] pos) (tCall sp [] E0 t) :=
  let ⟨_, _, a, b, c, d⟩ := F.ex; pe_call a hr hg b c d .nil pass0 ha hdb he hpl
theorem pe_fc {X : Cx} {x : Str} {ps : List Str} {k : Nat} {sp : Sp} {e : Expr} {es : List Expr} {t : TA} {p pos : Pos} (F : FnE X.prog X.w X.K X.mg X.base x ps k sp) (hr : Room k X.A) (ha : PA X (e :: es) t) (hg : Gl X x := by rfl)
    (hdb : (x == ("__debug__" : Str)) = false := by decide) (he : plainE e = true := by rfl) (hpl : es.all plainE = true := by rfl) : PE X (.Call (.Name x p) (e :: es) [] pos) (tCall sp [] E0 t) :=
  pe_fn F hr ha hg hdb (star_cons he) (star_any hpl)

def rMaxs (K : PySem.W.Frag) : List V → Hp → VK → Prop := fun xs H Q => ∃ p, ∃ ns : List Int, xs = [.ref p] ∧ (SqL K H p (ns.map V.int) ∨ SqT K H p (ns.map V.int)) ∧ 0 < ns.length ∧ ∀ M, M ∈ ns → (∀ a ∈ ns, a ≤ M) → Q (.int M) H
theorem call_maxsK {X : Cx} {K : PySem.W.Frag} (hc : X.calm = true) (hK : X.K = K) : CallR X (.builtin "max") (rMaxs K) := by
  subst hK
  exact call_maxs hc

/-! ### rules whose new object stands in any heap that keeps what was -/
def tTupS (t : TA) : TE := fun σ H Q => t σ H fun xs H1 => Nat.ble xs.length 1000 = true ∧ ∀ p H', Same H1 H' → H' p = some (.tup xs) → Q (.ref p) H'
def tLstS (t : TA) : TE := fun σ H Q => t σ H fun xs H1 => Nat.ble xs.length 1000 = true ∧ ∀ p H', Same H1 H' → H' p = some (.lst xs) → Q (.ref p) H'
def tDNewS : TE := fun _ H Q => ∀ p H', Same H H' → H' p = some (.dK []) → Q (.ref p) H'
section
variable {X : Cx} {e : Expr} {es : List Expr} {te : TE} {t : TA} {pos : Pos}
theorem OpR.weak {f : Value → Value → Sem Value} {r r' : R2} (h : OpR X f r) (k : ∀ x y H Q, r' x y H Q → r x y H Q) : OpR X f r' := fun pins s σ H x y v u Q I rx ry q => h pins s σ H x y v u Q I rx ry (k _ _ _ _ q)
theorem CallR.weak {f : Value} {r r' : List V → Hp → VK → Prop} (h : CallR X f r) (k : ∀ xs H Q, r' xs H Q → r xs H Q) : CallR X f r' := fun pins s σ H xs us Q I r q => h pins s σ H xs us Q I r (k _ _ _ q)
theorem pe_tupS {x1} (h : PA X es t) : PE X (.Tuple es x1 pos) (tTupS t) := by
  intro pins s σ H Q I hq
  refine wpAny_Tuple_spliced (thn (h pos pins s σ H _ I hq) fun us s1 ⟨xs, H1, I1, r, z, q⟩ => ⟨by rw [← r.length]; exact le1000 z, ?_⟩)
  have hf : H1 s1.heap.objs.size = none := I1.hok.fresh (Nat.le_refl _)
  refine ⟨.ref s1.heap.objs.size, upd H1 s1.heap.objs.size (.tup xs), I1.laid (t' := s1.toks) (fun b u e => Heap.get?_push_of_some _ e) (Nat.le_refl _) ?_, rfl, q _ _ (same_add hf) upd_same⟩
  exact ⟨le1000 z, us, r, ⟨_, Heap.get?_push_size _ rfl, rfl, _, rfl⟩⟩
theorem pe_lstS (h : PA X es t) : PE X (.List es pos) (tLstS t) := by
  intro pins s σ H Q I hq
  refine wpAny_List_spliced (thn (h pos pins s σ H _ I hq) fun us s1 ⟨xs, H1, I1, r, z, q⟩ => ⟨by rw [← r.length]; exact le1000 z, ?_⟩)
  have hf : H1 s1.heap.objs.size = none := I1.hok.fresh (Nat.le_refl _)
  refine ⟨.ref s1.heap.objs.size, upd H1 s1.heap.objs.size (.lst xs), I1.laid (t' := s1.toks) (fun b u e => Heap.get?_push_of_some _ e) (Nat.le_refl _) ?_, rfl, q _ _ (same_add hf) upd_same⟩
  exact ⟨le1000 z, us, 0, r, Heap.get?_push_size _ rfl⟩
theorem pe_dnewS : PE X (.Dict [] [] pos) tDNewS := fun pins s σ H Q I h => pe_dnewK pins s σ H Q I fun p hp => h p _ (same_add hp) upd_same
/-- t + u, tuples that are tracked -/
def rCatTS : R2 := fun x y H Q => ∃ a b xs ys, x = .ref a ∧ y = .ref b ∧ H a = some (.tup xs) ∧ H b = some (.tup ys) ∧ xs.length + ys.length ≤ 100000 ∧ ∀ p H', Same H H' → H' p = some (.tup (xs ++ ys)) → Q (.ref p) H'
theorem op_catTS : OpR X (binaryOp .Add) rCatTS := by
  intro pins s σ H x y v u Q I rx ry h
  obtain ⟨a, b, xs, ys, rfl, rfl, ha, hb, hz, q⟩ := h
  by_cases h0 : xs = []
  · subst h0
    exact op_catT0 pins s σ H _ _ v u Q I rx ry ⟨a, b, ys, rfl, rfl, SqT.of ha, SqT.of hb, q b H (Same.refl H) hb⟩
  · refine op_catT pins s σ H _ _ v u Q I rx ry ⟨a, b, xs, ys, rfl, rfl, SqT.of ha, SqT.of hb, h0, leMil hz, fun z => ?_, fun _ p hp => q p _ (same_add hp) upd_same⟩
    subst z
    exact q a H (Same.refl H) (by rw [List.append_nil]; exact ha)
/-- l + m, lists -/
def rCatLS : R2 := fun x y H Q => ∃ a b xs ys, x = .ref a ∧ y = .ref b ∧ H a = some (.lst xs) ∧ H b = some (.lst ys) ∧ xs.length + ys.length ≤ 100000 ∧ ∀ p H', Same H H' → H' p = some (.lst (xs ++ ys)) → Q (.ref p) H'
theorem op_catLS : OpR X (binaryOp .Add) rCatLS := op_cat.weak fun x y H Q ⟨a, b, xs, ys, e1, e2, h1, h2, z, q⟩ => ⟨a, b, xs, ys, e1, e2, h1, h2, leMil z, fun p hp => q p _ (same_add hp) upd_same⟩
/-- t * k -/
def rRepTS : R2 := fun x y H Q => ∃ l k xs, x = .ref l ∧ y = .int k ∧ H l = some (.tup xs) ∧ 1 < k ∧ k < 100000 ∧ xs ≠ [] ∧ xs.length * k.toNat ≤ 100000 ∧ ∀ p H', Same H H' → H' p = some (.tup (List.replicate k.toNat xs).flatten) → Q (.ref p) H'
theorem op_repTS : OpR X (binaryOp .Mult) rRepTS := op_repT.weak fun x y H Q ⟨l, k, xs, e1, e2, h, k1, k2, ne, z, q⟩ => ⟨l, k, xs, e1, e2, SqT.of h, k1, by omega, ne, leMil z, fun p hp => q p _ (same_add hp) upd_same⟩
/-- list(a list or a tuple) -/
theorem call_list_ofS : CallR X (.type "list") (fun xs H Q => ∃ p ys, xs = [.ref p] ∧ (SqL X.K H p ys ∨ SqT X.K H p ys) ∧ ∀ l H', Same H H' → H' l = some (.lst ys) → Q (.ref l) H') :=
  call_list_of.weak fun xs H Q ⟨p, ys, e, h, q⟩ => ⟨p, ys, e, h, fun l hl => q l _ (same_add hl) upd_same⟩
theorem call_tuple_ofS : CallR X (.type "tuple") (fun xs H Q => ∃ p ys, xs = [.ref p] ∧ (H p = some (.lst ys) ∨ H p = some (.tup ys)) ∧ ∀ l H', Same H H' → H' l = some (.tup ys) → Q (.ref l) H') :=
  call_tuple_of.weak fun xs H Q ⟨p, ys, e, h, q⟩ => ⟨p, ys, e, by
    rcases h with h | h
    · exact .inl ⟨SqL.of h, fun l hl => q l _ (same_add hl) upd_same⟩
    · exact .inr ⟨SqT.of h, q p H (Same.refl H) h⟩⟩
end

/-! ### [elt for tg in t if ..], t a tuple that stays, by an invariant -/
def MonoE (t : TE) : Prop := ∀ σ H (Q Q' : VK), (∀ v H', Q v H' → Q' v H') → t σ H Q → t σ H Q'
theorem mono_var (i : Nat) : MonoE (tVar i) := fun σ H Q Q' k ⟨v, e, q⟩ => ⟨v, e, k _ _ q⟩
theorem mono_c (v : V) : MonoE (tC v) := fun σ H Q Q' k q => k _ _ q
theorem mono_ixT {K : PySem.W.Frag} {ta tb : TE} (ha : MonoE ta) (hb : MonoE tb) : MonoE (tOp (rIxT K) ta tb) := fun σ H Q Q' k q => ha σ H _ _ (fun x H1 q => hb σ H1 _ _ (fun y H2 ⟨p, xs, i, v, e1, e2, h, a, q⟩ => ⟨p, xs, i, v, e1, e2, h, a, k _ _ q⟩) q) q
def tLCT (K : PySem.W.Frag) (bs : List (Option Nat)) (tl : TE) (g : TG) (tt : TT) (te : TE) : TE := fun σ H Q => tl σ H fun x H1 => ∃ a xs, x = .ref a ∧ SqT K H1 a xs ∧ xs.length ≤ 100000 ∧ ∃ Pv : Nat → List V → St → Hp → Prop, Pv 0 [] (bst bs σ) H1 ∧
  (∀ i ys σ H, i ≤ xs.length → Pv i ys σ H → SqT K H a xs ∧ ys.length ≤ i) ∧
  (∀ i x ys σ H, xs[i]? = some x → Pv i ys σ H → g x σ H fun σ3 H3 => tt σ3 H3 fun b H4 => if b = true then te σ3 H4 fun v H5 => Pv (i + 1) (ys ++ [v]) σ3 H5 else Pv (i + 1) ys σ3 H4) ∧
  ∀ ys σ H, Pv xs.length ys σ H → ∀ p H', Same H H' → H' p = some (.lst ys) → Q (.ref p) H'
theorem pe_lcT {X : Cx} {scope : Scope} {cl : List (Str × Addr)} {N : List Str} {bs : List (Option Nat)} {tg iter elt : Expr} {ifs : List Expr} {pos : Pos} {tl : TE} {g : TG} {tt : TT} {te : TE} (B : Blk X scope cl N bs) (hc : X.calm = true)
    (hl : PE X iter tl) (hm : MonoE tl) (hg : ∀ C fp s H, PG (cxBlk X scope cl C N fp s H) tg g) (ht : ∀ C fp s H, PTs (cxBlk X scope cl C N fp s H) ifs tt) (he : ∀ C fp s H, PE (cxBlk X scope cl C N fp s H) elt te)
    (hs : ∀ x, foldedSetIterable iter X.env x = pure x := by intro _; rfl) : PE X (.ListComp elt [⟨tg, iter, ifs, 0⟩] scope pos) (tLCT X.K bs tl g tt te) := by
  intro pins s σ H Q I h
  refine @pe_lc X scope cl N bs tg iter elt ifs pos (iTup X.K tl) g tt te B hc (@pi_tup X _ _ _ hl) hg ht he hs pins s σ H Q I ?_
  refine hm σ H _ _ (fun x H1 h => ?_) h
  obtain ⟨a, xs, e, hS, hz, Pv, p0, pl, ps, pd⟩ := h
  exact ⟨a, e, ⟨xs, hS⟩, lc_tup (Q := Q) Pv (leMil hz) p0 pl ps fun ys σ H hp p hpn => pd ys σ H hp p _ (same_add hpn) upd_same⟩
end L2

set_option Elab.async false
set_option linter.all false
set_option maxRecDepth 100000
set_option maxHeartbeats 4000000
namespace L2
open PySem PySem.Spec PyProof.Rows
/-! ### readings that are monotone -/
def MonoA (t : TA) : Prop := ∀ σ H (Q Q' : List V → Hp → Prop), (∀ v H', Q v H' → Q' v H') → t σ H Q → t σ H Q'
theorem monoA_nil : MonoA tNil := fun σ H Q Q' k q => k _ _ q
theorem monoA_cons {te : TE} {tr : TA} (ha : MonoE te) (hr : MonoA tr) : MonoA (tCons te tr) := fun σ H Q Q' k q => ha σ H _ _ (fun x H1 q => hr σ H1 _ _ (fun xs H2 q => k _ _ q) q) q
theorem mono_rI0 {g : Int → Int → V} {ta tb : TE} (ha : MonoE ta) (hb : MonoE tb) : MonoE (tOp (rI0 g) ta tb) := fun σ H Q Q' k q => ha σ H _ _ (fun x H1 q => hb σ H1 _ _ (fun y H2 ⟨i, j, e1, e2, q⟩ => ⟨i, j, e1, e2, k _ _ q⟩) q) q
theorem mono_rI {C : Int → Int → Prop} {g : Int → Int → V} {ta tb : TE} (ha : MonoE ta) (hb : MonoE tb) : MonoE (tOp (rI C g) ta tb) := fun σ H Q Q' k q => ha σ H _ _ (fun x H1 q => hb σ H1 _ _ (fun y H2 ⟨i, j, e1, e2, c, q⟩ => ⟨i, j, e1, e2, c, k _ _ q⟩) q) q
theorem mono_ixL {K : PySem.W.Frag} {ta tb : TE} (ha : MonoE ta) (hb : MonoE tb) : MonoE (tOp (rIxL K) ta tb) := fun σ H Q Q' k q => ha σ H _ _ (fun x H1 q => hb σ H1 _ _ (fun y H2 ⟨p, xs, i, v, e1, e2, h, a, q⟩ => ⟨p, xs, i, v, e1, e2, h, a, k _ _ q⟩) q) q
def rLen (K : PySem.W.Frag) : List V → Hp → VK → Prop := fun xs H Q => ∃ p ys, xs = [.ref p] ∧ (SqL K H p ys ∨ SqT K H p ys) ∧ Q (.int ys.length) H
theorem call_lenK {X : Cx} {K : PySem.W.Frag} (hK : X.K = K) : CallR X (.builtin "len") (rLen K) := by
  subst hK
  exact call_len_seq
theorem mono_len {K : PySem.W.Frag} {t : TA} (h : MonoA t) : MonoE (tCB (rLen K) t) := fun σ H Q Q' k q => h σ H _ _ (fun vs H1 ⟨p, ys, e, s, q⟩ => ⟨p, ys, e, s, k _ _ q⟩) q

/-! ### comprehensions over a range, over a list that stays -/
theorem lc_range {lo : Int} {n : Nat} {g : TG} {tt : TT} {te : TE} {σ : St} {H : Hp} {Q : VK} (Pv : Nat → List V → St → Hp → Prop) (hz : n ≤ sizeLine) (h0 : Pv 0 [] σ H) (hl : ∀ i ys σ H, i ≤ n → Pv i ys σ H → ys.length ≤ i)
    (hs : ∀ i ys σ H, i < n → Pv i ys σ H → g (.int (lo + i)) σ H fun σ3 H3 => tt σ3 H3 fun b H4 => if b = true then te σ3 H4 fun v H5 => Pv (i + 1) (ys ++ [v]) σ3 H5 else Pv (i + 1) ys σ3 H4)
    (hd : ∀ ys σ H, Pv n ys σ H → ∀ p, H p = none → Q (.ref p) (upd H p (.lst ys))) :
    ∃ W : Nat → Nat → List V → St → Hp → Prop, (∃ m, W 0 m [] σ H) ∧ ∀ i m ys σ' H', W i m ys σ' H' →
      ((Itr lo n).stop i H' ∧ ys.length ≤ sizeLine ∧ ∀ p, H' p = none → Q (.ref p) (upd H' p (.lst ys))) ∨
      ((Itr lo n).go i H' ∧ ys.length < sizeLine ∧ ∃ N : List V → St → Hp → Prop, (∀ zs σ2 H2, N zs σ2 H2 → ∃ m', m' < m ∧ W (i + 1) m' zs σ2 H2) ∧ ∀ x H2, (Itr lo n).yld i H' x H2 → g x σ' H2 fun σ3 H3 => tt σ3 H3 fun b H4 =>
        if b = true then te σ3 H4 fun v H5 => N (ys ++ [v]) σ3 H5 else N ys σ3 H4) := by
  refine ⟨fun i m ys σ H => m = n - i ∧ i ≤ n ∧ Pv i ys σ H, ⟨n, by simp, Nat.zero_le _, h0⟩, ?_⟩
  rintro i m ys σ H ⟨rfl, hi, p⟩
  have ql := hl i ys σ H hi p
  by_cases hlt : i < n
  · refine .inr ⟨hlt, by omega, Pv (i + 1), fun zs σ' H' p' => ⟨n - (i + 1), by omega, rfl, hlt, p'⟩, fun x H' y => ?_⟩
    obtain ⟨e, y⟩ := y
    subst e
    subst y
    exact hs i ys σ _ hlt p
  · have e : i = n := by omega
    subst e
    exact .inl ⟨Nat.le_refl _, by omega, hd ys σ H p⟩
def tLCR (bs : List (Option Nat)) (ta : TA) (g : TG) (tt : TT) (te : TE) : TE := fun σ H Q => ta σ H fun vs H1 => ∃ n : Nat, vs = [.int (n : Int)] ∧ n ≤ 100000 ∧ ∃ Pv : Nat → List V → St → Hp → Prop, Pv 0 [] (bst bs σ) H1 ∧
  (∀ i ys σ H, i ≤ n → Pv i ys σ H → ys.length ≤ i) ∧
  (∀ i ys σ H, i < n → Pv i ys σ H → g (.int (0 + i)) σ H fun σ3 H3 => tt σ3 H3 fun b H4 => if b = true then te σ3 H4 fun v H5 => Pv (i + 1) (ys ++ [v]) σ3 H5 else Pv (i + 1) ys σ3 H4) ∧
  ∀ ys σ H, Pv n ys σ H → ∀ p H', Same H H' → H' p = some (.lst ys) → Q (.ref p) H'
theorem pe_lcR {X : Cx} {scope : Scope} {cl : List (Str × Addr)} {N : List Str} {bs : List (Option Nat)} {tg a elt : Expr} {ifs : List Expr} {p pos' pos : Pos} {ta : TA} {g : TG} {tt : TT} {te : TE} (B : Blk X scope cl N bs) (hc : X.calm = true)
    (hgl : Gl X "range") (hmr : X.mg "range" = none) (ha : PA X [a] ta) (hm : MonoA ta) (hpl : plainE a = true) (hg : ∀ C fp s H, PG (cxBlk X scope cl C N fp s H) tg g) (ht : ∀ C fp s H, PTs (cxBlk X scope cl C N fp s H) ifs tt) (he : ∀ C fp s H, PE (cxBlk X scope cl C N fp s H) elt te)
    (hs : ∀ x, foldedSetIterable (.Call (.Name "range" p) [a] [] pos') X.env x = pure x := by intro _; rfl) : PE X (.ListComp elt [⟨tg, .Call (.Name "range" p) [a] [] pos', ifs, 0⟩] scope pos) (tLCR bs ta g tt te) := by
  intro pins s σ H Q I h
  refine @pe_lc X scope cl N bs tg _ elt ifs pos (iRng1 ta) g tt te B hc (@pi_range1 X tg a ta p pos' hgl hmr ha (star_cons hpl)) hg ht he hs pins s σ H Q I ?_
  refine hm σ H _ _ (fun vs H1 h => ?_) h
  obtain ⟨n, e, hz, Pv, p0, pl, ps, pd⟩ := h
  refine ⟨(n : Int), e, by omega, by omega, ?_⟩
  rw [Int.toNat_natCast]
  exact lc_range (Q := Q) Pv (leMil hz) p0 pl ps fun ys σ H hp p hpn => pd ys σ H hp p _ (same_add hpn) upd_same
theorem lc_list {K : PySem.W.Frag} {a : Addr} {xs : List V} {g : TG} {tt : TT} {te : TE} {σ : St} {H : Hp} {Q : VK} (Pv : Nat → List V → St → Hp → Prop) (hz : xs.length ≤ sizeLine) (h0 : Pv 0 [] σ H) (hl : ∀ i ys σ H, i ≤ xs.length → Pv i ys σ H → SqL K H a xs ∧ ys.length ≤ i)
    (hs : ∀ i x ys σ H, xs[i]? = some x → Pv i ys σ H → g x σ H fun σ3 H3 => tt σ3 H3 fun b H4 => if b = true then te σ3 H4 fun v H5 => Pv (i + 1) (ys ++ [v]) σ3 H5 else Pv (i + 1) ys σ3 H4)
    (hd : ∀ ys σ H, Pv xs.length ys σ H → ∀ p, H p = none → Q (.ref p) (upd H p (.lst ys))) :
    ∃ W : Nat → Nat → List V → St → Hp → Prop, (∃ m, W 0 m [] σ H) ∧ ∀ i m ys σ' H', W i m ys σ' H' →
      ((Itl K a).stop i H' ∧ ys.length ≤ sizeLine ∧ ∀ p, H' p = none → Q (.ref p) (upd H' p (.lst ys))) ∨
      ((Itl K a).go i H' ∧ ys.length < sizeLine ∧ ∃ N : List V → St → Hp → Prop, (∀ zs σ2 H2, N zs σ2 H2 → ∃ m', m' < m ∧ W (i + 1) m' zs σ2 H2) ∧ ∀ x H2, (Itl K a).yld i H' x H2 → g x σ' H2 fun σ3 H3 => tt σ3 H3 fun b H4 =>
        if b = true then te σ3 H4 fun v H5 => N (ys ++ [v]) σ3 H5 else N ys σ3 H4) := by
  refine ⟨fun i m ys σ H => m = xs.length - i ∧ i ≤ xs.length ∧ Pv i ys σ H, ⟨xs.length, by simp, Nat.zero_le _, h0⟩, ?_⟩
  rintro i m ys σ H ⟨rfl, hi, p⟩
  obtain ⟨q, ql⟩ := hl i ys σ H hi p
  by_cases hlt : i < xs.length
  · refine .inr ⟨⟨xs, xs[i], q, by simp [hlt]⟩, by omega, Pv (i + 1), fun zs σ' H' p' => ⟨xs.length - (i + 1), by omega, rfl, hlt, p'⟩, fun x H' y => ?_⟩
    obtain ⟨e, y⟩ := y
    subst e
    exact hs i x ys σ _ (y xs q) p
  · have e : i = xs.length := by omega
    subst e
    exact .inl ⟨⟨xs, q, Nat.le_refl _⟩, by omega, hd ys σ H p⟩
def tLCL (K : PySem.W.Frag) (bs : List (Option Nat)) (tl : TE) (g : TG) (tt : TT) (te : TE) : TE := fun σ H Q => tl σ H fun x H1 => ∃ a xs, x = .ref a ∧ SqL K H1 a xs ∧ xs.length ≤ 100000 ∧ ∃ Pv : Nat → List V → St → Hp → Prop, Pv 0 [] (bst bs σ) H1 ∧
  (∀ i ys σ H, i ≤ xs.length → Pv i ys σ H → SqL K H a xs ∧ ys.length ≤ i) ∧
  (∀ i x ys σ H, xs[i]? = some x → Pv i ys σ H → g x σ H fun σ3 H3 => tt σ3 H3 fun b H4 => if b = true then te σ3 H4 fun v H5 => Pv (i + 1) (ys ++ [v]) σ3 H5 else Pv (i + 1) ys σ3 H4) ∧
  ∀ ys σ H, Pv xs.length ys σ H → ∀ p H', Same H H' → H' p = some (.lst ys) → Q (.ref p) H'
theorem pe_lcL {X : Cx} {scope : Scope} {cl : List (Str × Addr)} {N : List Str} {bs : List (Option Nat)} {tg iter elt : Expr} {ifs : List Expr} {pos : Pos} {tl : TE} {g : TG} {tt : TT} {te : TE} (B : Blk X scope cl N bs) (hc : X.calm = true)
    (hl : PE X iter tl) (hm : MonoE tl) (hg : ∀ C fp s H, PG (cxBlk X scope cl C N fp s H) tg g) (ht : ∀ C fp s H, PTs (cxBlk X scope cl C N fp s H) ifs tt) (he : ∀ C fp s H, PE (cxBlk X scope cl C N fp s H) elt te)
    (hs : ∀ x, foldedSetIterable iter X.env x = pure x := by intro _; rfl) : PE X (.ListComp elt [⟨tg, iter, ifs, 0⟩] scope pos) (tLCL X.K bs tl g tt te) := by
  intro pins s σ H Q I h
  refine @pe_lc X scope cl N bs tg iter elt ifs pos (iList X.K tl) g tt te B hc (@pi_list X _ _ _ hl) hg ht he hs pins s σ H Q I ?_
  refine hm σ H _ _ (fun x H1 h => ?_) h
  obtain ⟨a, xs, e, hS, hz, Pv, p0, pl, ps, pd⟩ := h
  exact ⟨a, e, ⟨xs, hS⟩, lc_list (Q := Q) Pv (leMil hz) p0 pl ps fun ys σ H hp p hpn => pd ys σ H hp p _ (same_add hpn) upd_same⟩

/-! ### min(row), max(row, default=d) -/
section
variable {X : Cx}
def rMins (K : PySem.W.Frag) : List V → Hp → VK → Prop := fun xs H Q => ∃ p, ∃ ns : List Int, xs = [.ref p] ∧ (SqL K H p (ns.map V.int) ∨ SqT K H p (ns.map V.int)) ∧ 0 < ns.length ∧ ∀ M, M ∈ ns → (∀ a ∈ ns, M ≤ a) → Q (.int M) H
theorem call_mins (hc : X.calm = true) : CallR X (.builtin "min") (rMins X.K) := by
  intro pins s σ H xs us Q I r h
  obtain ⟨p, ns, rfl, hp, hne, q⟩ := h
  obtain ⟨u, rfl, rx⟩ := vals1 r
  cases (show u = Value.ref p from rx)
  have fin : ∀ (vs : List Value) (it : Obj), Vals (ns.map V.int) vs → (∀ i v, vs.toArray[i]? = some v → ∃ t, v = Value.int (ns.getD i 0) t) → ∀ v h' tk, vs.toArray[argBest (fun i j => decide (ns.getD i 0 < ns.getD j 0)) (vs.toArray.size - 1)]? = some v →
      (∀ b o, b ∉ [s.heap.objs.size] → (s.heap.push it).get? b = some o → h'.get? b = some o) → EP X pins σ Q v { s with heap := h', toks := tk } := by
    intro vs it rv hval v h' tk hP hk
    obtain ⟨t, rfl⟩ := hval _ _ hP
    have hlen : vs.length = ns.length := by have := rv.length; simpa using this.symm
    obtain ⟨h1, h2⟩ := argBest_lt (fun i => ns.getD i 0) (vs.toArray.size - 1)
    rw [List.size_toArray, hlen] at h1 h2
    rw [List.size_toArray, hlen]
    refine ⟨.int _, H, I.kept (t' := tk) fun b o e2 => hk b o (fun hm => ?_) (Heap.get?_push_of_some _ e2), ⟨t, rfl⟩, q _ ?_ fun a ha => ?_⟩
    · rw [List.mem_singleton.mp hm] at e2
      exact Nat.lt_irrefl _ (Heap.lt_size e2)
    · have hlt : argBest (fun i j => decide (ns.getD i 0 < ns.getD j 0)) (ns.length - 1) < ns.length := by omega
      rw [List.getD_eq_getElem?_getD, List.getElem?_eq_getElem hlt]
      exact List.getElem_mem hlt
    · obtain ⟨j, hj, rfl⟩ := List.getElem_of_mem ha
      have := h2 j (by omega)
      rw [List.getD_eq_getElem?_getD (i := j), List.getElem?_eq_getElem hj] at this
      exact this
  have hvals : ∀ vs : List Value, Vals (ns.map V.int) vs → ∀ i v, vs.toArray[i]? = some v → ∃ t, v = Value.int (ns.getD i 0) t := by
    intro vs rv i v e
    have e' : vs[i]? = some v := by simpa using e
    have hlen : vs.length = ns.length := by have := rv.length; simpa using this.symm
    have hi : i < ns.length := by rw [← hlen]; exact (List.getElem?_eq_some_iff.mp e').1
    obtain ⟨u, e2, r2⟩ := rv.get (i := i) (x := .int ns[i]) (by rw [List.getElem?_map, List.getElem?_eq_getElem hi]; rfl)
    rw [e'] at e2
    cases e2
    obtain ⟨t, rfl⟩ := r2
    exact ⟨t, by rw [List.getD_eq_getElem?_getD, List.getElem?_eq_getElem hi]; rfl⟩
  have pos : ∀ vs : List Value, Vals (ns.map V.int) vs → 0 < vs.toArray.size := fun vs rv => by
    have := rv.length
    rw [List.length_map] at this
    rw [List.size_toArray]; omega
  rcases hp with hp | hp
  · obtain ⟨vs, rv, pl, hz⟩ := I.list hp
    have hl := pl.isList
    have hlt : p < s.heap.objs.size := by obtain ⟨_, e, _⟩ := hl; exact Heap.lt_size e
    refine call_min_walk (wpAny_pyIter_list hl ?_)
    refine ⟨s.heap.objs.size, [s.heap.objs.size, p], [s.heap.objs.size], _, _, _, _, rfl, Walks.list (A := X.A.in1) (I.ok.hd hc) _ p (Nat.ne_of_lt hlt) vs.toArray, ⟨⟨_, Heap.get?_push_size _ rfl, rfl, rfl⟩, hl.push _⟩, fun b hb => ?_, pos vs rv, CmpOf.ints_lt (fun i => ns.getD i 0) (hvals vs rv), fun v h' tk hP hk => fin vs _ rv (hvals vs rv) v h' tk hP hk⟩
    show b < (s.heap.push _).objs.size
    rw [Heap.size_push]
    simp only [List.mem_cons, List.not_mem_nil, or_false] at hb
    rcases hb with rfl | rfl
    · exact Nat.lt_succ_self _
    · exact Nat.lt_succ_of_lt hlt
  · obtain ⟨vs, rv, pl, hz⟩ := I.tuple hp
    have hl : s.heap.IsTuple p vs.toArray := pl
    have hlt : p < s.heap.objs.size := by obtain ⟨_, e, _⟩ := hl; exact Heap.lt_size e
    refine call_min_walk (wpAny_pyIter_tuple hl ?_)
    refine ⟨s.heap.objs.size, [s.heap.objs.size, p], [s.heap.objs.size], _, _, _, _, rfl, Walks.tuple (A := X.A.in1) (I.ok.hd hc) _ p (Nat.ne_of_lt hlt) vs.toArray, ⟨⟨_, Heap.get?_push_size _ rfl, rfl, rfl⟩, hl.push _⟩, fun b hb => ?_, pos vs rv, CmpOf.ints_lt (fun i => ns.getD i 0) (hvals vs rv), fun v h' tk hP hk => fin vs _ rv (hvals vs rv) v h' tk hP hk⟩
    show b < (s.heap.push _).objs.size
    rw [Heap.size_push]
    simp only [List.mem_cons, List.not_mem_nil, or_false] at hb
    rcases hb with rfl | rfl
    · exact Nat.lt_succ_self _
    · exact Nat.lt_succ_of_lt hlt
theorem call_minsK {K : PySem.W.Frag} (hc : X.calm = true) (hK : X.K = K) : CallR X (.builtin "min") (rMins K) := by
  subst hK
  exact call_mins hc
end
end L2

set_option Elab.async false
set_option linter.all false
set_option maxRecDepth 100000
set_option maxHeartbeats 4000000
namespace PySem
open Sem (wp)
open AutoSeq1 (wpAny_loadPart')
/-! ### enumerate(a tuple): made, asked -/
section
variable {prog : Program} {w : World} {A : Around} {E : Value → Shared → Prop} {s : Shared}
theorem nextOf_tuple_item {it l : Addr} {i : Nat} {items} {x : Value} {Q : Value → Shared → Prop} (hit : s.heap.IsTupleIter it l i)
    (hl : s.heap.IsTuple l items) (hx : items[i]? = some x)
    (hQ : ∀ h', h'.IsTupleIter it l (i + 1) → Heap.SameBut it s.heap h' → Q x { s with heap := h' }) :
    wpAny (model prog w) A (Builtin.SmallTypes.nextOf (.ref it)) Q E s := by
  obtain ⟨o, ho, hc, hd⟩ := id hit
  obtain ⟨ol, hol, _, nl, hdl⟩ := hl
  unfold Builtin.SmallTypes.nextOf
  refine wpAny_bind (wpAny_callSpecial?_slot (name := Str.ofString "__next__") hit.typeIs F.slot_tuple_iterator_next
    (wpAny_call_entry F.slot_tuple_iterator_next hit.typeIs F.entry_tuple_iterator_next ?_ (F.args_tuple_iterator_next_1 _)))
  show wpAny _ _ (field (.ref it) 0 >>= _) _ _ s
  refine wpAny_bind (wpAny_field ho hd (x := .ref l) rfl ?_)
  show wpAny _ _ (if (Value.ref l == Value.none) = true then _ else _) _ _ s
  rw [if_neg (show ¬ ((Value.ref l == Value.none) = true) from Bool.false_ne_true)]
  show wpAny _ _ (field (.ref it) 1 >>= _) _ _ s
  refine wpAny_bind (wpAny_field ho hd (x := .int i 0) rfl ?_)
  show wpAny _ _ (seqItems? (.ref l) >>= _) _ _ s
  refine wpAny_bind (wpAny_seqItems hol hdl ?_)
  simp only [Int.toNat_natCast, hx]
  refine wpAny_bind (wpAny_setField ho hd (by simp) (wpAny_pure ⟨x, rfl, wpAny_pure (hQ _ ?_ (Heap.SameBut.update ..))⟩))
  exact ⟨_, Heap.get?_update_self _ ho (Obj.isFreed_of_fields (Obj.data_mapFields hd _)), (Obj.cls_mapFields ..).trans hc, by
    rw [Obj.data_mapFields hd]; simp [rawInt]⟩
theorem nextOf_tuple_end {it l : Addr} {i : Nat} {items} {Q : Value → Shared → Prop} (hh : A.handled = none)
    (hit : s.heap.IsTupleIter it l i) (hl : s.heap.IsTuple l items) (hx : items[i]? = none)
    (hE : ∀ h' e, Heap.ExtBut it s.heap h' → (∃ o, h'.get? e = some o ∧ o.cls = .type "StopIteration") → E (.ref e) { s with heap := h' }) :
    wpAny (model prog w) A (Builtin.SmallTypes.nextOf (.ref it)) Q E s := by
  obtain ⟨o, ho, hc, hd⟩ := id hit
  obtain ⟨ol, hol, _, nl, hdl⟩ := hl
  unfold Builtin.SmallTypes.nextOf
  refine wpAny_bind (wpAny_callSpecial?_slot (name := Str.ofString "__next__") hit.typeIs F.slot_tuple_iterator_next
    (wpAny_call_entry F.slot_tuple_iterator_next hit.typeIs F.entry_tuple_iterator_next ?_ (F.args_tuple_iterator_next_1 _)))
  show wpAny _ _ (field (.ref it) 0 >>= _) _ _ s
  refine wpAny_bind (wpAny_field ho hd (x := .ref l) rfl ?_)
  show wpAny _ _ (if (Value.ref l == Value.none) = true then _ else _) _ _ s
  rw [if_neg (show ¬ ((Value.ref l == Value.none) = true) from Bool.false_ne_true)]
  show wpAny _ _ (field (.ref it) 1 >>= _) _ _ s
  refine wpAny_bind (wpAny_field ho hd (x := .int i 0) rfl ?_)
  show wpAny _ _ (seqItems? (.ref l) >>= _) _ _ s
  refine wpAny_bind (wpAny_seqItems hol hdl ?_)
  simp only [Int.toNat_natCast, hx]
  refine wpAny_bind (wpAny_rule (wpAny_bind (wpAny_setField ho hd (by simp) ?_)))
  show wpAny _ _ (newExc (.type "StopIteration") [] >>= _) _ _ _
  refine wpAny_bind ?_
  simp only [newExc, newTuple]
  refine wpAny_bind (wpAny_newObj_type ?_ (by size_fits))
  refine wpAny_bind (m := firstArgMember _ _) (wpAny_of_eq (a := Value.none) (by first | rfl | (simp only [firstArgMember]; rfl)) ?_)
  refine wpAny_newObj_type ?_ (by size_fits)
  simp only [raiseNew]
  refine wpAny_bind (wpAny_handled ?_)
  first | rw [show A.in1.handled = none from hh] | rw [hh]
  refine wpAny_bind (wpAny_pure (wpAny_throw ?_))
  exact hE _ _ (((Heap.SameBut.update ..).extBut.push _).push _) ⟨_, Heap.get?_push_size _ rfl, rfl⟩
end
theorem Draws.tupleD {prog : Program} {w : World} {A : Around} (hh : A.handled = none) (it l : Addr) (hne : l ≠ it) (items : Array Value) :
    Draws prog w A it [it, l] items.size (fun i v => items[i]? = some v) (fun i h => h.IsTupleIter it l i ∧ h.IsTuple l items) where
  live := fun _ _ st => let ⟨o, ho, _⟩ := st.1; ⟨o, ho⟩
  frame := fun _ _ _ st hk => ⟨let ⟨o, ho, r⟩ := st.1; ⟨o, hk it (by simp) o ho, r⟩, let ⟨o, ho, r⟩ := st.2; ⟨o, hk l (by simp) o ho, r⟩⟩
  item := fun i s Q E hi st hQ => by
    refine nextOf_tuple_item st.1 st.2 (x := items[i]) (by simp [hi]) fun h' hit' hs' => ?_
    exact hQ _ h' s.toks (by simp [hi]) ⟨hit', st.2.extBut hs'.extBut hne⟩ hs'
  done := fun s Q E st hE => nextOf_tuple_end hh st.1 st.2 (by simp) hE
theorem meets_enumerate_newT (l : Addr) (items : Array Value) (n : Nat) (dct : Option Addr) (sl : Array (Option Value)) :
    Meets (Builtin.«enumerate.__new__» ⟨[.type "enumerate", .ref l], []⟩) (fun _ R s => s.heap.get? l = some { cls := .type "tuple", dict := dct, data := .seq items n, slots := sl } ∧
      R (.ok (.ret (.ref (s.heap.push { cls := .type "tuple_iterator", data := .fields #[.ref l, .int 0 0] }).objs.size)))
        { s with heap := (s.heap.push { cls := .type "tuple_iterator", data := .fields #[.ref l, .int 0 0] }).push { cls := .type "enumerate", data := .fields #[.none, .bool false, .ref s.heap.objs.size, rawInt 0, .none, .none] } }) :=
  .of_wp fun prog w A R s h => by
    obtain ⟨hp, g, d, tk, os⟩ := s; obtain ⟨hl, h⟩ := h
    have hsub := sub_enumerate
    have hL : Heap.IsTuple (Shared.heap ⟨hp, g, d, tk, os⟩) l items := ⟨_, hl, rfl, n, rfl⟩
    wp_walk using wpAny_loadPart' hl
    refine wpAny_stack_any fun st => wpAny_pure ?_
    split
    · rename_i c _ _ _ _ _
      cases (c == Value.type "enumerate")
      · wp_walk using wpAny_loadPart' hl, wpAny_pyIter_tuple hL
        exact ⟨_, rfl, h⟩
      · wp_walk using wpAny_loadPart' hl, wpAny_pyIter_tuple hL
        exact ⟨_, rfl, h⟩
    · wp_walk using wpAny_loadPart' hl, wpAny_pyIter_tuple hL
      exact ⟨_, rfl, h⟩
section
variable {prog : Program} {w : World} {A : Around} {E : Value → Shared → Prop} {s : Shared}
theorem call_enumerate_tuple {l : Addr} {items : Array Value} {Q : Value → Shared → Prop} (hL : s.heap.IsTuple l items)
    (h : ∀ h', IsEnum h' (s.heap.objs.size + 1) s.heap.objs.size 0 .none → h'.IsTupleIter s.heap.objs.size l 0 → h'.objs.size = s.heap.objs.size + 2 →
      (∀ b o, s.heap.get? b = some o → h'.get? b = some o) → Q (.ref (s.heap.objs.size + 1)) { s with heap := h' }) :
    wpAny (model prog w) A (call (.type "enumerate") [.ref l]) Q E s := by
  obtain ⟨⟨c, dct, dt, sl⟩, hl, hc, n, hd⟩ := hL
  replace hc : c = .type "tuple" := hc
  replace hd : dt = .seq items n := hd
  subst hc hd
  refine callType_new F.called_enumerate (by decide) (F.typeCall_enumerate_1 _) (F.newCall_enumerate_1 _) (fun obj => F.args_object_init_2 obj _) F.entry_enumerate_new
    (meets_enumerate_newT l items n dct sl) ⟨hl, ?_⟩
  have hz : (s.heap.push { cls := .type "tuple_iterator", data := .fields #[.ref l, .int 0 0] }).objs.size = s.heap.objs.size + 1 := Heap.size_push ..
  show _ ∧ _
  rw [hz]
  have he : IsEnum ((s.heap.push { cls := .type "tuple_iterator", data := .fields #[.ref l, .int 0 0] }).push
      { cls := .type "enumerate", data := .fields #[.none, .bool false, .ref s.heap.objs.size, rawInt 0, .none, .none] }) (s.heap.objs.size + 1) s.heap.objs.size 0 .none := by
    have := Heap.get?_push_size (s.heap.push { cls := .type "tuple_iterator", data := .fields #[.ref l, .int 0 0] })
      (o := { cls := .type "enumerate", data := .fields #[.none, .bool false, .ref s.heap.objs.size, rawInt 0, .none, .none] }) rfl
    rw [hz] at this; exact this
  refine ⟨⟨_, he, rfl⟩, h _ he ⟨_, Heap.get?_push_of_some _ (Heap.get?_push_size _ rfl), rfl, rfl⟩ (by rw [Heap.size_push, hz]) fun b o x => Heap.get?_push_of_some _ (Heap.get?_push_of_some _ x)⟩
end
end PySem

namespace L2
open PySem PySem.Spec PyProof.Rows
/-- several records of ours have turned -/
theorem Inv.turnedL {X : Cx} {pins : List (Addr × Obj)} {σ : St} {H : Hp} {s : Shared} {h' : Heap} {t' : Nat} {ch : List Addr} (I : Inv X pins σ H s) (k : ∀ b o, b ∉ ch → s.heap.get? b = some o → h'.get? b = some o) (hf : ∀ b ∈ ch, FpOk X pins H b) : Inv X pins σ H { s with heap := h', toks := t' } := by
  have nit : ∀ b u, H b = some u → b ∉ ch := fun b u e z => by rw [(hf b z).1] at e; cases e
  refine I.step (g' := s.gens) (d' := s.drawn) (ch := ch) (fun b hb => ⟨(hf b hb).2.2.2.1, (hf b hb).2.1, (hf b hb).2.2.2.2.1, (hf b hb).2.2.2.2.2⟩) (fun b o _ _ hc e _ => k b o hc e) (fun b o _ _ hc e _ => ⟨o.slots, k b o hc e⟩) (fun _ _ _ _ n => n)
    (fun b o hc e => ⟨o, k b o hc e⟩) (fun _ _ e => e) (fun _ _ _ e => e) (fun b ps e => ⟨#[], by rw [e]; simp⟩) (fun m hm => ?_) (fun b u e => ?_) I.bare
  · obtain ⟨o, es, ep, ho, r⟩ := hm
    exact ⟨o, es, ep, k _ o (fun z => (hf _ z).2.1 rfl) ho, r⟩
  · refine (I.hok b u e).stay (fun c v hc q => k c v ?_ q) (fun _ q => q) fun _ _ q => q
    rcases hc with z | z
    · rw [z]; exact nit b u e
    · exact nit c _ z
/-- (0, t[0]), (1, t[1]), .. -/
def Ite (K : PySem.W.Frag) (a : Addr) : It :=
  ⟨fun i H => ∃ xs x, SqT K H a xs ∧ xs[i]? = some x, fun i H x H' => ∃ T y, x = .ref T ∧ H T = none ∧ H' = upd H T (.tup [.int i, y]) ∧ ∀ xs, SqT K H a xs → xs[i]? = some y, fun i H => ∃ xs, SqT K H a xs ∧ xs.length ≤ i⟩
theorem turn_enum {P : Program} {w : World} {K : PySem.W.Frag} {elts : List Expr} {x1 : Nat} {pos : Pos} (a e it : Addr) (hne : e ≠ it) :
    Turn P w K (.Tuple elts x1 pos) (Ite K a) [e, it] e (fun i h => (∃ old, IsEnum h e it i old) ∧ h.IsTupleIter it a i) where
  mem := by simp
  obj := fun i h st b hb => by
    obtain ⟨⟨old, he⟩, o, ho, hc, hd⟩ := st
    rcases List.mem_cons.mp hb with rfl | hb
    · exact ⟨_, he, fun v z => nomatch z⟩
    · rw [List.mem_singleton.mp hb]
      exact ⟨o, ho, fun v z => by rw [hd] at z; cases z⟩
  keep := fun i h h' st k => by
    obtain ⟨⟨old, he⟩, o, ho, r⟩ := st
    exact ⟨⟨old, k e (by simp) _ he⟩, o, k it (by simp) o ho, r⟩
  item := by
    intro X hP hw hK hc i pins s σ H E I hf st hg
    subst hP hw hK
    obtain ⟨xs, x, hq, hx⟩ := hg
    obtain ⟨its, rv, p, hz⟩ := I.tuple hq
    obtain ⟨u, hu, ru⟩ := rv.get hx
    obtain ⟨⟨old, he⟩, hit⟩ := st
    have fe := hf e (by simp)
    have fi := hf it (by simp)
    have ht : s.heap.IsTuple a its.toArray := p
    have hlt : i < its.toArray.size := by
      rw [List.size_toArray]
      exact (List.getElem?_eq_some_iff.mp hu).1
    have hai : a ≠ it := fun z => by
      obtain ⟨o, ho, h1, _⟩ := ht
      obtain ⟨o', ho', h2, _⟩ := hit
      rw [z, ho'] at ho
      cases ho
      rw [h2] at h1
      exact absurd (Value.type.inj h1) (by decide)
    have hae : e ≠ a := fun z => by
      obtain ⟨o, ho, h1, _⟩ := ht
      have he' : s.heap.get? e = _ := he
      rw [z, ho] at he'
      cases he'
      exact absurd (Value.type.inj h1) (by decide)
    refine wpAny_pyNext_enum_itemD (Draws.tupleD (by simp [I.ok.hd hc]) it a hai its.toArray) he ⟨hit, ht⟩ hlt hne (by simp only [List.mem_cons, List.not_mem_nil, or_false, not_or]; exact ⟨hne, hae⟩) fun x' h' tk hP ho hs' hT hsz hk => ?_
    have ex : x' = u := by
      rw [List.getElem?_toArray] at hP
      rw [hu] at hP
      exact (Option.some.inj hP).symm
    subst ex
    have I1 : Inv X pins σ H { s with heap := h', toks := tk + 1 } := I.turnedL (ch := [e, it]) (fun b o hb q => hk b o (fun z => hb (by simp [z])) (fun z => hb (by simp [z])) q) fun b hb => hf b hb
    refine ⟨_, rfl, wpAny_letOwnedTupleGo_enum (s := { s with heap := h', toks := tk + 1 }) ho fun h2 he2 sb => ?_⟩
    have I2 : Inv X pins σ H { s with heap := h2, toks := tk + 1 } := Inv.turnedL (s := { s with heap := h', toks := tk + 1 }) (t' := tk + 1) (ch := [e]) I1 (fun b o hb q => (sb.2 b (fun z => hb (by simp [z]))).trans q) fun b hb => by rw [List.mem_singleton.mp hb]; exact fe
    have hn : H s.heap.objs.size = none := I.hok.fresh (Nat.le_refl _)
    have fT : FpOk X pins H s.heap.objs.size := I.fpOk (Nat.le_refl _) hn
    have heT : s.heap.objs.size ≠ e := Nat.ne_of_gt (Heap.lt_size he)
    have hT2 : h2.get? s.heap.objs.size = some { cls := .type "tuple", data := .seq #[.int i tk, x'] } := (sb.2 _ heT).trans hT
    refine ⟨.ref s.heap.objs.size, upd H s.heap.objs.size (.tup [.int i, x]), I2.track fT I.sz ?_, rfl, ⟨_, x, rfl, hn, rfl, fun ys hy => by rw [I.tuple_inj hy hq]; exact hx⟩, ⟨⟨x', by simpa using he2⟩, ?_⟩, fun b hb => ?_⟩
    · exact ⟨le1000 rfl, [.int i tk, x'], .cons ⟨tk, rfl⟩ (.cons ru .nil), ⟨_, hT2, rfl, _, rfl⟩⟩
    · obtain ⟨o, ho', r⟩ := hs'.1
      exact ⟨o, (sb.2 _ (Ne.symm hne)).trans ho', r⟩
    · rcases List.mem_cons.mp hb with rfl | hb
      · rw [upd_ne (Ne.symm heT)]; exact fe.1
      · rw [List.mem_singleton.mp hb, upd_ne]
        · exact fi.1
        · obtain ⟨o, ho', _⟩ := hit
          exact Nat.ne_of_lt (Heap.lt_size ho')
  done := by
    intro X hP hw hK hc i pins s σ H E I hf st hg
    subst hP hw hK
    obtain ⟨xs, hq, hx⟩ := hg
    obtain ⟨its, rv, p, hz⟩ := I.tuple hq
    obtain ⟨⟨old, he⟩, hit⟩ := st
    have ht : s.heap.IsTuple a its.toArray := p
    have hl := rv.length
    have hT : s.TypeIs (.ref e) "enumerate" := ⟨_, he, rfl⟩
    unfold pyNext
    refine wpAny_bind (wpAny_attempt (wpAny_callSpecial?_slot (name := Str.ofString "__next__") hT F.slot_enumerate_next
      (wpAny_call_entry F.slot_enumerate_next hT F.entry_enumerate_next ?_ (F.args_enumerate_next_1 _))))
    show wpAny _ _ (field (.ref e) 2 >>= _) _ _ _
    refine wpAny_bind (wpAny_field he rfl (x := .ref it) rfl ?_)
    refine wpAny_bind (nextOf_tuple_end (by simp [I.ok.hd hc]) hit ht (by simp; omega) fun h' x he' hx' => ?_)
    obtain ⟨o, ho, hc'⟩ := hx'
    refine wpAny_bind (wpAny_isInstance (T := "StopIteration") (b := true) ⟨o, ho, hc'⟩ isSubtype_stop ?_)
    exact wpAny_pure ⟨rfl, I.turnedL (t' := s.toks) (ch := [it]) (fun b o hb q => he' b o (fun z => hb (by simp [z])) q) fun b hb => by rw [List.mem_singleton.mp hb]; exact hf it (by simp)⟩
  self := fun _ _ _ _ _ st h => by
    obtain ⟨⟨old, he⟩, _⟩ := st
    exact wpAny_pyIter_enum he h
def iEnum (K : PySem.W.Frag) (ta : TA) : TI := fun σ H R => ta σ H fun vs H1 => ∃ a, vs = [.ref a] ∧ (∃ xs, SqT K H1 a xs) ∧ R (Ite K a) H1
theorem boot_enum : bootBuiltins "enumerate" = some (.type "enumerate") := by decide +kernel
theorem pi_enum {X : Cx} {elts : List Expr} {x1 : Nat} {tpos : Pos} {a : Expr} {ta : TA} {p pos : Pos} (hg : Gl X "enumerate") (hm : X.mg "enumerate" = none) (ha : PA X [a] ta) (hpl : plainE a = true) : PI X (.Tuple elts x1 tpos) (.Call (.Name "enumerate" p) [a] [] pos) (iEnum X.K ta) := by
  intro pins s σ H R I h
  refine Call_ (ld_blt I hg hm boot_enum (PyProof.Rows.callWith_type1 (thn (ha pos pins s σ H _ I h) fun us s1 ⟨vs, H1, I1, r1, q1⟩ => ?_) (star_cons hpl) rfl))
  obtain ⟨b, e, ⟨xs, hq⟩, q⟩ := q1
  subst e
  obtain ⟨u, rfl, ru⟩ := vals1 r1
  cases (show u = Value.ref b from ru)
  obtain ⟨its, rv, pt, hz⟩ := I1.tuple hq
  refine call_enumerate_tuple (show s1.heap.IsTuple b its.toArray from pt) fun h' he hi hsz hk => ?_
  have I2 : Inv X pins σ H1 { s1 with heap := h' } := I1.kept (t' := s1.toks) hk
  refine wpAny_pyIter_enum (s := { s1 with heap := h' }) he ?_
  refine ⟨s1.heap.objs.size + 1, [s1.heap.objs.size + 1, s1.heap.objs.size], _, _, H1, rfl, I2, turn_enum b _ _ (Nat.succ_ne_self _), ⟨⟨.none, he⟩, hi⟩, fun c hc => ?_, q⟩
  rcases List.mem_cons.mp hc with rfl | hc
  · exact I1.fpOk (Nat.le_succ _) (I1.hok.fresh (Nat.le_succ _))
  · rw [List.mem_singleton.mp hc]
    exact I1.fpOk (Nat.le_refl _) (I1.hok.fresh (Nat.le_refl _))

/-! ### [elt for i, x in enumerate(t) if ..] -/
def tLCE (K : PySem.W.Frag) (bs : List (Option Nat)) (ta : TA) (g : TG) (tt : TT) (te : TE) : TE := fun σ H Q => ta σ H fun vs H1 => ∃ a xs, vs = [.ref a] ∧ SqT K H1 a xs ∧ xs.length ≤ 100000 ∧ ∃ Pv : Nat → List V → St → Hp → Prop, Pv 0 [] (bst bs σ) H1 ∧
  (∀ i ys σ H, i ≤ xs.length → Pv i ys σ H → SqT K H a xs ∧ ys.length ≤ i) ∧
  (∀ i x ys σ H, xs[i]? = some x → Pv i ys σ H → ∀ T H2, Same H H2 → H2 T = some (.tup [.int i, x]) → g (.ref T) σ H2 fun σ3 H3 => tt σ3 H3 fun b H4 => if b = true then te σ3 H4 fun v H5 => Pv (i + 1) (ys ++ [v]) σ3 H5 else Pv (i + 1) ys σ3 H4) ∧
  ∀ ys σ H, Pv xs.length ys σ H → ∀ p H', Same H H' → H' p = some (.lst ys) → Q (.ref p) H'
theorem pe_lcE {X : Cx} {scope : Scope} {cl : List (Str × Addr)} {N : List Str} {bs : List (Option Nat)} {elts : List Expr} {x1 : Nat} {tpos : Pos} {a elt : Expr} {ifs : List Expr} {p pos' pos : Pos} {ta : TA} {g : TG} {tt : TT} {te : TE} (B : Blk X scope cl N bs) (hc : X.calm = true)
    (hgl : Gl X "enumerate") (hmr : X.mg "enumerate" = none) (ha : PA X [a] ta) (hm : MonoA ta) (hpl : plainE a = true) (hg : ∀ C fp s H, PG (cxBlk X scope cl C N fp s H) (.Tuple elts x1 tpos) g) (ht : ∀ C fp s H, PTs (cxBlk X scope cl C N fp s H) ifs tt) (he : ∀ C fp s H, PE (cxBlk X scope cl C N fp s H) elt te)
    (hs : ∀ x, foldedSetIterable (.Call (.Name "enumerate" p) [a] [] pos') X.env x = pure x := by intro _; rfl) : PE X (.ListComp elt [⟨.Tuple elts x1 tpos, .Call (.Name "enumerate" p) [a] [] pos', ifs, 0⟩] scope pos) (tLCE X.K bs ta g tt te) := by
  intro pins s σ H Q I h
  refine @pe_lc X scope cl N bs _ _ elt ifs pos (iEnum X.K ta) g tt te B hc (@pi_enum X elts x1 tpos a ta p pos' hgl hmr ha hpl) hg ht he hs pins s σ H Q I ?_
  refine hm σ H _ _ (fun vs H1 h => ?_) h
  obtain ⟨a, xs, e, hS, hz, Pv, p0, pl, ps, pd⟩ := h
  refine ⟨a, e, ⟨xs, hS⟩, fun i m ys σ H => m = xs.length - i ∧ i ≤ xs.length ∧ Pv i ys σ H, ⟨xs.length, by simp, Nat.zero_le _, p0⟩, ?_⟩
  rintro i m ys σ H ⟨rfl, hi, pv'⟩
  obtain ⟨q, ql⟩ := pl i ys σ H hi pv'
  have hz' := leMil hz
  by_cases hlt : i < xs.length
  · refine .inr ⟨⟨xs, xs[i], q, by simp [hlt]⟩, by omega, Pv (i + 1), fun zs σ' H' p' => ⟨xs.length - (i + 1), by omega, rfl, hlt, p'⟩, fun x H' y => ?_⟩
    obtain ⟨T, y', rfl, hT, rfl, hy⟩ := y
    exact ps i y' ys σ H (hy xs q) pv' T _ (same_add hT) upd_same
  · have e : i = xs.length := by omega
    subst e
    exact .inl ⟨⟨xs, q, Nat.le_refl _⟩, by omega, fun p hpn => pd ys σ H pv' p _ (same_add hpn) upd_same⟩
end L2

set_option linter.all false
set_option maxRecDepth 100000
namespace SetT
open PySem PySem.SetTable
/-! ### the way that a search goes, by the mask alone -/
def adv (mask : Nat) (p : Probe) : Probe :=
  if p.more > 0 then { p with j := p.j + 1, more := p.more - 1 } else
  { p with j := (leap mask p.i p.perturb).1, more := runEnd mask (leap mask p.i p.perturb).1 - (leap mask p.i p.perturb).1, i := (leap mask p.i p.perturb).1, perturb := (leap mask p.i p.perturb).2 }
theorem adv_eq (t : SetTable) (p : Probe) : t.advance p = adv t.mask p := by
  unfold SetTable.advance adv
  split <;> rfl
def st0 (mask : Nat) (b : Nat) : Probe := { j := b % (mask + 1), more := runEnd mask (b % (mask + 1)) - b % (mask + 1), i := b % (mask + 1), perturb := b, dummy := none }
def stk (mask b : Nat) : Nat → Probe
  | 0 => st0 mask b
  | k + 1 => adv mask (stk mask b k)
theorem stk_zero (t : SetTable) (h : Int) : t.probeStart h = stk t.mask (bits h) 0 := rfl
theorem stk_dummy (mask b : Nat) : ∀ k, (stk mask b k).dummy = none
  | 0 => rfl
  | k + 1 => by
    have ih := stk_dummy mask b k
    show (adv mask (stk mask b k)).dummy = none
    unfold adv
    split <;> exact ih
def pos (mask b k : Nat) : Nat := (stk mask b k).j

/-! ### the runs' beginnings -/
def rs (mask b : Nat) : Nat → Nat × Nat
  | 0 => (b % (mask + 1), b)
  | n + 1 => leap mask (rs mask b n).1 (rs mask b n).2
theorem more_le (mask i : Nat) : runEnd mask i - i ≤ 9 := by unfold runEnd; split <;> omega
/-- within a run -/
theorem stk_run (mask b : Nat) {k n : Nat} (h : stk mask b k = { j := (rs mask b n).1, more := runEnd mask (rs mask b n).1 - (rs mask b n).1, i := (rs mask b n).1, perturb := (rs mask b n).2, dummy := none }) :
    ∀ m, m ≤ runEnd mask (rs mask b n).1 - (rs mask b n).1 → stk mask b (k + m) = { j := (rs mask b n).1 + m, more := runEnd mask (rs mask b n).1 - (rs mask b n).1 - m, i := (rs mask b n).1, perturb := (rs mask b n).2, dummy := none }
  | 0, _ => by rw [Nat.add_zero, h]; rfl
  | m + 1, hm => by
    have ih := stk_run mask b h m (by omega)
    show adv mask (stk mask b (k + m)) = _
    rw [ih]
    unfold adv
    rw [if_pos (by show runEnd mask (rs mask b n).1 - (rs mask b n).1 - m > 0; omega)]
    simp only [Probe.mk.injEq, and_true, true_and]
    omega
/-- the n-th run begins at a step of at most 10 n -/
theorem run_at (mask b : Nat) : ∀ n, ∃ k, k ≤ 10 * n ∧ stk mask b k = { j := (rs mask b n).1, more := runEnd mask (rs mask b n).1 - (rs mask b n).1, i := (rs mask b n).1, perturb := (rs mask b n).2, dummy := none }
  | 0 => ⟨0, Nat.le_refl _, rfl⟩
  | n + 1 => by
    obtain ⟨k, hk, e⟩ := run_at mask b n
    have m9 := more_le mask (rs mask b n).1
    have e2 := stk_run mask b e (runEnd mask (rs mask b n).1 - (rs mask b n).1) (Nat.le_refl _)
    refine ⟨k + (runEnd mask (rs mask b n).1 - (rs mask b n).1) + 1, by omega, ?_⟩
    show adv mask (stk mask b (k + (runEnd mask (rs mask b n).1 - (rs mask b n).1))) = _
    rw [e2]
    unfold adv
    rw [if_neg (by show ¬ runEnd mask (rs mask b n).1 - (rs mask b n).1 - (runEnd mask (rs mask b n).1 - (rs mask b n).1) > 0; omega)]
    rfl
theorem rs_pert (mask b : Nat) : ∀ n, (rs mask b n).2 = b / 32 ^ n
  | 0 => by show b = b / 32 ^ 0; rw [Nat.pow_zero, Nat.div_one]
  | n + 1 => by
    show (rs mask b n).2 / 32 = b / 32 ^ (n + 1)
    rw [rs_pert mask b n, Nat.div_div_eq_div_mul, Nat.pow_succ]
theorem rs_lt (mask b : Nat) : ∀ n, (rs mask b n).1 < mask + 1
  | 0 => Nat.mod_lt _ (Nat.succ_pos _)
  | n + 1 => Nat.mod_lt _ (Nat.succ_pos _)
def fL (mask x : Nat) : Nat := (x * 5 + 1) % (mask + 1)
def itF (mask x : Nat) : Nat → Nat
  | 0 => x
  | n + 1 => fL mask (itF mask x n)
theorem rs_late (mask b : Nat) (hb : b < 2 ^ 64) : ∀ r, (rs mask b (12 + r)).1 = itF mask (rs mask b 12).1 r
  | 0 => rfl
  | r + 1 => by
    show ((rs mask b (12 + r)).1 * 5 + 1 + (rs mask b (12 + r)).2 / 32) % (mask + 1) = fL mask (itF mask (rs mask b 12).1 r)
    have hp : (rs mask b (12 + r)).2 / 32 = 0 := by
      rw [rs_pert, Nat.div_div_eq_div_mul]
      refine Nat.div_eq_of_lt (Nat.lt_of_lt_of_le hb ?_)
      have e : 32 ^ (12 + r) * 32 = 2 ^ 64 * (2 * 32 ^ r) := by
        rw [Nat.pow_add, show (32 : Nat) ^ 12 = 2 ^ 60 from rfl, show (2 : Nat) ^ 64 = 2 ^ 60 * 16 from rfl, Nat.mul_right_comm, Nat.mul_assoc (2 ^ 60) 16, ← Nat.mul_assoc 16 2, Nat.mul_assoc (2 ^ 60) 32]
      rw [e]
      refine Nat.le_mul_of_pos_right _ ?_
      have := Nat.pow_pos (n := r) (show 0 < 32 by decide)
      omega
    rw [hp, rs_late mask b hb r]
    rfl
/-- x ↦ 5 x + 1 goes through all places -/
def orbit (mask x : Nat) : Nat → List Nat
  | 0 => []
  | n + 1 => x :: orbit mask (fL mask x) n
theorem itF_succ (mask x : Nat) : ∀ n, itF mask (fL mask x) n = itF mask x (n + 1)
  | 0 => rfl
  | n + 1 => by show fL mask (itF mask (fL mask x) n) = fL mask (itF mask x (n + 1)); rw [itF_succ mask x n]
theorem mem_orbit (mask : Nat) : ∀ (n x z : Nat), z ∈ orbit mask x n → ∃ r, r < n ∧ itF mask x r = z
  | 0, _, _, h => nomatch h
  | n + 1, x, z, h => by
    rcases List.mem_cons.mp h with e | h
    · exact ⟨0, Nat.succ_pos _, e.symm⟩
    · obtain ⟨r, hr, e⟩ := mem_orbit mask n (fL mask x) z h
      exact ⟨r + 1, by omega, by rw [← itF_succ]; exact e⟩
def fullB (mask : Nat) : Bool := (List.range (mask + 1)).all (fun z => (orbit mask 0 (mask + 1)).contains z) && (itF mask 0 (mask + 1) == 0)
theorem itF_add (mask x m : Nat) : ∀ n, itF mask (itF mask x m) n = itF mask x (m + n)
  | 0 => rfl
  | n + 1 => by show fL mask (itF mask (itF mask x m) n) = fL mask (itF mask x (m + n)); rw [itF_add mask x m n]
theorem full_of {mask : Nat} (h : fullB mask = true) {x z : Nat} (hx : x < mask + 1) (hz : z < mask + 1) : ∃ r, r < mask + 1 ∧ itF mask x r = z := by
  unfold fullB at h
  rw [Bool.and_eq_true] at h
  obtain ⟨h1, h2⟩ := h
  have h2 : itF mask 0 (mask + 1) = 0 := beq_iff_eq.mp h2
  have all := fun y (hy : y < mask + 1) => mem_orbit mask (mask + 1) 0 y (List.contains_iff_mem.mp (List.all_eq_true.mp h1 y (List.mem_range.mpr hy)))
  obtain ⟨a, ha, ea⟩ := all x hx
  obtain ⟨c, hc, ec⟩ := all z hz
  by_cases hac : a ≤ c
  · refine ⟨c - a, by omega, ?_⟩
    rw [← ea, itF_add, show a + (c - a) = c by omega]
    exact ec
  · refine ⟨mask + 1 - a + c, by omega, ?_⟩
    rw [← ea, itF_add, show a + (mask + 1 - a + c) = mask + 1 + c by omega, ← itF_add, h2]
    exact ec
theorem reach {mask b z : Nat} (hf : fullB mask = true) (hb : b < 2 ^ 64) (hz : z < mask + 1) : ∃ n, n ≤ 12 + mask ∧ (rs mask b n).1 = z := by
  obtain ⟨r, hr, e⟩ := full_of hf (rs_lt mask b 12) hz
  exact ⟨12 + r, by omega, by rw [rs_late mask b hb]; exact e⟩
theorem reachP {mask b z : Nat} (hf : fullB mask = true) (hb : b < 2 ^ 64) (hz : z < mask + 1) : ∃ k, k < 10 * turns mask ∧ pos mask b k = z := by
  obtain ⟨n, hn, e⟩ := reach hf hb hz
  obtain ⟨k, hk, e2⟩ := run_at mask b n
  refine ⟨k, by unfold turns; omega, ?_⟩
  unfold pos
  rw [e2]
  exact e
theorem full7 : fullB 7 = true := by decide +kernel
theorem full31 : fullB 31 = true := by decide +kernel
theorem full127 : fullB 127 = true := by decide +kernel
theorem full511 : fullB 511 = true := by decide +kernel
theorem bits_lt (h : Int) : bits h < 2 ^ 64 := by
  unfold bits
  have h1 := Int.emod_nonneg h (show (2 ^ 64 : Int) ≠ 0 by decide)
  have h2 := Int.emod_lt_of_pos h (show (0 : Int) < 2 ^ 64 by decide)
  omega

/-! ### the places, rising -/
def Rise (xs : Array Nat) : Prop := ∀ i j, i < j → j < xs.size → xs.getD i 0 < xs.getD j 0
theorem below_go {xs : Array Nat} {j : Nat} (hr : Rise xs) : ∀ (fuel lo hi : Nat), hi - lo ≤ fuel → lo ≤ hi → hi ≤ xs.size → (∀ i, i < lo → xs.getD i 0 < j) → (∀ i, hi ≤ i → i < xs.size → j ≤ xs.getD i 0) →
    ∀ r, below.go xs j fuel lo hi = r → r ≤ xs.size ∧ (∀ i, i < r → xs.getD i 0 < j) ∧ (∀ i, r ≤ i → i < xs.size → j ≤ xs.getD i 0)
  | 0, lo, hi, h1, h2, h3, a, b, r, e => by
    have e' : lo = r := e
    subst e'
    exact ⟨by omega, a, fun i hi' => b i (by omega)⟩
  | fuel + 1, lo, hi, h1, h2, h3, a, b, r, e => by
    unfold below.go at e
    by_cases hlt : lo < hi
    · rw [if_pos hlt] at e
      have hmid : (lo + hi) / 2 < xs.size := by omega
      have gd : xs.getD ((lo + hi) / 2) j = xs.getD ((lo + hi) / 2) 0 := by
        simp [Array.getD, hmid]
      simp only [gd] at e
      by_cases hc : xs.getD ((lo + hi) / 2) 0 < j
      · rw [if_pos hc] at e
        refine below_go hr fuel ((lo + hi) / 2 + 1) hi (by omega) (by omega) h3 (fun i hi' => ?_) b r e
        rcases Nat.lt_or_ge i ((lo + hi) / 2) with z | z
        · exact Nat.lt_trans (hr i _ z hmid) hc
        · have : i = (lo + hi) / 2 := by omega
          rw [this]; exact hc
      · rw [if_neg hc] at e
        refine below_go hr fuel lo ((lo + hi) / 2) (by omega) (by omega) (by omega) a (fun i hi' hs => ?_) r e
        rcases Nat.lt_or_ge ((lo + hi) / 2) i with z | z
        · exact Nat.le_trans (Nat.le_of_not_lt hc) (Nat.le_of_lt (hr _ i z hs))
        · have : i = (lo + hi) / 2 := by omega
          rw [this]; exact Nat.le_of_not_lt hc
    · rw [if_neg hlt] at e
      subst e
      exact ⟨by omega, a, fun i hi' => b i (by omega)⟩
theorem below_spec {xs : Array Nat} (hr : Rise xs) (j : Nat) : below xs j ≤ xs.size ∧ (∀ i, i < below xs j → xs.getD i 0 < j) ∧ (∀ i, below xs j ≤ i → i < xs.size → j ≤ xs.getD i 0) :=
  below_go hr xs.size 0 xs.size (by omega) (Nat.zero_le _) (Nat.le_refl _) (fun i h => absurd h (Nat.not_lt_zero _)) (fun i h1 h2 => absurd h2 (by omega)) _ rfl
theorem getD_of {xs : Array Nat} {i v : Nat} (h : xs[i]? = some v) : i < xs.size ∧ xs.getD i 0 = v := by
  obtain ⟨h1, h2⟩ := Array.getElem?_eq_some_iff.mp h
  exact ⟨h1, by simp [Array.getD, h1, h2]⟩
theorem of_getD {xs : Array Nat} {i : Nat} (h : i < xs.size) : xs[i]? = some (xs.getD i 0) := by simp [Array.getD, h]
theorem below_at {xs : Array Nat} (hr : Rise xs) {i j : Nat} (h : xs[i]? = some j) : below xs j = i := by
  obtain ⟨b1, b2, b3⟩ := below_spec hr j
  obtain ⟨h1, h2⟩ := getD_of h
  rcases Nat.lt_trichotomy (below xs j) i with z | z | z
  · have h3 := b3 (below xs j) (Nat.le_refl _) (by omega)
    have h4 := hr _ _ z h1
    omega
  · exact z
  · have := b2 i z
    omega
/-- what stands at a place, where no dummies are -/
theorem slot_live {t : SetTable} (hr : Rise t.place) {i j : Nat} (h : t.place[i]? = some j) : t.slot j = .live i := by
  unfold SetTable.slot
  rw [below_at hr h]
  simp [h]
theorem slot_cases (t : SetTable) (hd : t.dummies = #[]) (j : Nat) : (∃ i, t.slot j = .live i ∧ t.place[i]? = some j) ∨ t.slot j = .empty := by
  unfold SetTable.slot
  by_cases h : (t.place[below t.place j]? == some j) = true
  · refine .inl ⟨below t.place j, ?_, beq_iff_eq.mp h⟩
    simp [h]
  · refine .inr ?_
    have e : has t.dummies j = false := by rw [hd]; rfl
    simp [h, e]
theorem slot_empty {t : SetTable} (hr : Rise t.place) {j : Nat} (h : t.slot j = .empty) : ∀ i : Nat, t.place[i]? ≠ some j := fun i z => by
  rw [slot_live hr z] at h
  cases h
end SetT

set_option linter.all false
set_option maxRecDepth 100000
namespace SetT
open PySem PySem.SetTable
structure SetOk (t : SetTable) (es : Array (Int × Value)) : Prop where
  full : fullB t.mask = true
  odd : t.mask % 2 = 1
  nod : t.dummies = #[]
  rise : Rise t.place
  le : ∀ (i v : Nat), t.place[i]? = some v → v < t.mask + 1
  size : t.place.size = es.size
  path : ∀ (i v : Nat) (e : Int × Value), t.place[i]? = some v → es[i]? = some e → ∃ k, pos t.mask (bits e.1) k = v ∧ ∀ k', k' < k → ∃ i' : Nat, t.place[i']? = some (pos t.mask (bits e.1) k')

/-- where not all places are taken, one is free -/
theorem some_free {xs : Array Nat} (hr : Rise xs) {m : Nat} (hs : xs.size < m) : ∃ z, z < m ∧ ∀ i : Nat, xs[i]? ≠ some z := by
  refine Classical.byContradiction fun hno => ?_
  have all : ∀ z, z < m → ∃ i : Nat, xs[i]? = some z := fun z hz => Classical.byContradiction fun hn => hno ⟨z, hz, fun i e => hn ⟨i, e⟩⟩
  have ge : ∀ z, z < m → ∃ i : Nat, xs[i]? = some z ∧ z ≤ i := by
    intro z
    induction z with
    | zero => intro h; obtain ⟨i, e⟩ := all 0 h; exact ⟨i, e, Nat.zero_le _⟩
    | succ z ih =>
      intro h
      obtain ⟨i, e, hi⟩ := ih (by omega)
      obtain ⟨j, e'⟩ := all (z + 1) h
      refine ⟨j, e', ?_⟩
      obtain ⟨a1, a2⟩ := getD_of e
      obtain ⟨b1, b2⟩ := getD_of e'
      rcases Nat.lt_trichotomy i j with q | q | q
      · omega
      · subst q; omega
      · have := hr j i q a1; omega
  by_cases h0 : m = 0
  · omega
  · obtain ⟨i, e, hi⟩ := ge (m - 1) (by omega)
    have := (getD_of e).1
    omega
/-- a least one -/
theorem least {P : Nat → Prop} : ∀ n, P n → ∃ k, k ≤ n ∧ P k ∧ ∀ k', k' < k → ¬ P k' := by
  intro n
  induction n using Nat.strongRecOn with
  | _ n ih =>
    intro hn
    by_cases h : ∃ k, k < n ∧ P k
    · obtain ⟨k, hk, pk⟩ := h
      obtain ⟨k2, h1, h2, h3⟩ := ih k hk pk
      exact ⟨k2, by omega, h2, h3⟩
    · exact ⟨n, Nat.le_refl _, hn, fun k' hk' pk' => h ⟨k', hk', pk'⟩⟩
variable {t : SetTable} {es : Array (Int × Value)}
theorem first_empty (ok : SetOk t es) (room : es.size < t.mask + 1) (b : Nat) (hb : b < 2 ^ 64) :
    ∃ k0, k0 < 10 * turns t.mask ∧ t.slot (pos t.mask b k0) = .empty ∧ ∀ k', k' < k0 → ∃ i : Nat, t.slot (pos t.mask b k') = .live i ∧ t.place[i]? = some (pos t.mask b k') := by
  obtain ⟨z, hz, hfree⟩ := some_free ok.rise (show t.place.size < t.mask + 1 by rw [ok.size]; exact room)
  obtain ⟨k, hk, e⟩ := reachP ok.full hb hz
  have hemp : t.slot (pos t.mask b k) = .empty := by
    rcases slot_cases t ok.nod (pos t.mask b k) with ⟨i, _, h⟩ | h
    · rw [e] at h; exact absurd h (hfree i)
    · exact h
  obtain ⟨k0, h1, h2, h3⟩ := least (P := fun k => t.slot (pos t.mask b k) = .empty) k hemp
  refine ⟨k0, by omega, h2, fun k' hk' => ?_⟩
  rcases slot_cases t ok.nod (pos t.mask b k') with h | h
  · exact h
  · exact absurd h (h3 k' hk')
/-- a search from step k on: the first place that is free, or bears the hash -/
theorem go_spec (ok : SetOk t es) {b k0 : Nat} {f : Nat → Int} {h : Int} (he : t.slot (pos t.mask b k0) = .empty) (hl : ∀ k', k' < k0 → ∃ i : Nat, t.slot (pos t.mask b k') = .live i ∧ t.place[i]? = some (pos t.mask b k')) :
    ∀ (fuel k : Nat), k ≤ k0 → k0 - k < fuel →
      (probe.go t f h fuel (stk t.mask b k) = some (.empty (pos t.mask b k0) none) ∧ ∀ k', k ≤ k' → k' < k0 → ∃ i : Nat, t.place[i]? = some (pos t.mask b k') ∧ f i ≠ h) ∨
      (∃ k1 i, probe.go t f h fuel (stk t.mask b k) = some (.candidate (pos t.mask b k1) i (stk t.mask b (k1 + 1))) ∧ k ≤ k1 ∧ k1 < k0 ∧ t.place[i]? = some (pos t.mask b k1) ∧ f i = h ∧ t.slot (pos t.mask b k1) = .live i ∧
        ∀ k', k ≤ k' → k' < k1 → ∃ i : Nat, t.place[i]? = some (pos t.mask b k') ∧ f i ≠ h)
  | 0, k, _, hf => absurd hf (Nat.not_lt_zero _)
  | fuel + 1, k, hk, hf => by
    by_cases hk0 : k = k0
    · subst hk0
      refine .inl ⟨?_, fun k' h1 h2 => absurd h1 (by omega)⟩
      unfold probe.go
      have e : t.slot (stk t.mask b k).j = .empty := he
      rw [e]
      show some (Met.empty (stk t.mask b k).j (stk t.mask b k).dummy) = _
      rw [stk_dummy]
      rfl
    · obtain ⟨i, hi, hp⟩ := hl k (by omega)
      have e : t.slot (stk t.mask b k).j = .live i := hi
      by_cases hh : f i = h
      · refine .inr ⟨k, i, ?_, Nat.le_refl _, by omega, hp, hh, hi, fun k' h1 h2 => absurd h1 (by omega)⟩
        unfold probe.go
        rw [e]
        show (if f i == h then some (Met.candidate (stk t.mask b k).j i (t.advance (stk t.mask b k))) else _) = _
        rw [if_pos (beq_iff_eq.mpr hh), adv_eq]
        rfl
      · have step : probe.go t f h (fuel + 1) (stk t.mask b k) = probe.go t f h fuel (stk t.mask b (k + 1)) := by
          conv => lhs; unfold probe.go
          rw [e]
          show (if f i == h then _ else probe.go t f h fuel (t.advance (stk t.mask b k))) = _
          rw [if_neg (fun z => hh (beq_iff_eq.mp z)), adv_eq]
          rfl
        rw [step]
        rcases go_spec ok he hl fuel (k + 1) (by omega) (by omega) with ⟨h1, h2⟩ | ⟨k1, i1, h1, h2, h3, h4, h5, h6, h7⟩
        · refine .inl ⟨h1, fun k' a1 a2 => ?_⟩
          by_cases q : k' = k
          · subst q; exact ⟨i, hp, hh⟩
          · exact h2 k' (by omega) a2
        · refine .inr ⟨k1, i1, h1, by omega, h3, h4, h5, h6, fun k' a1 a2 => ?_⟩
          by_cases q : k' = k
          · subst q; exact ⟨i, hp, hh⟩
          · exact h7 k' (by omega) a2

/-! ### laying one more -/
theorem insertAt_list {α : Type} (xs : Array α) (p : Nat) (x : α) : (insertAt xs p x).toList = xs.toList.take p ++ x :: xs.toList.drop p := by
  unfold insertAt
  simp
  exact List.take_of_length_le (by simp)
theorem insertAt_get {α : Type} (xs : Array α) (p : Nat) (x : α) (hp : p ≤ xs.size) (i : Nat) : (insertAt xs p x)[i]? = if i < p then xs[i]? else if i = p then some x else xs[i - 1]? := by
  rw [← Array.getElem?_toList, insertAt_list]
  have hl : (xs.toList.take p).length = p := by rw [List.length_take, Array.length_toList]; omega
  by_cases h1 : i < p
  · rw [if_pos h1, List.getElem?_append_left (by omega), List.getElem?_take_of_lt h1, Array.getElem?_toList]
  · rw [if_neg h1, List.getElem?_append_right (by omega), hl]
    by_cases h2 : i = p
    · rw [if_pos h2, h2, Nat.sub_self]; rfl
    · rw [if_neg h2]
      obtain ⟨d, rfl⟩ : ∃ d, i = p + d + 1 := ⟨i - p - 1, by omega⟩
      rw [show p + d + 1 - p = d + 1 by omega, List.getElem?_cons_succ, List.getElem?_drop, Array.getElem?_toList, show p + d + 1 - 1 = p + d by omega]
theorem insertAt_size {α : Type} (xs : Array α) (p : Nat) (x : α) (hp : p ≤ xs.size) : (insertAt xs p x).size = xs.size + 1 := by
  rw [← Array.length_toList, insertAt_list, List.length_append, List.length_cons, List.length_take, List.length_drop, Array.length_toList]
  omega
theorem put_eq (hd : t.dummies = #[]) (j : Nat) : t.put j = ({ t with place := insertAt t.place (below t.place j) j }, below t.place j) := by
  unfold SetTable.put
  have e : has t.dummies j = false := by rw [hd]; rfl
  simp [e]
theorem insert_ok (ok : SetOk t es) {h : Int} {x : Value} {k0 : Nat} (he : t.slot (pos t.mask (bits h) k0) = .empty) (hlt : pos t.mask (bits h) k0 < t.mask + 1) (hl : ∀ k', k' < k0 → ∃ i : Nat, t.slot (pos t.mask (bits h) k') = .live i ∧ t.place[i]? = some (pos t.mask (bits h) k')) :
    SetOk { t with place := insertAt t.place (below t.place (pos t.mask (bits h) k0)) (pos t.mask (bits h) k0) } (insertAt es (below t.place (pos t.mask (bits h) k0)) (h, x)) := by
  obtain ⟨b1, b2, b3⟩ := below_spec ok.rise (pos t.mask (bits h) k0)
  have hfree := slot_empty ok.rise he
  have b1' : below t.place (pos t.mask (bits h) k0) ≤ es.size := by rw [← ok.size]; exact b1
  generalize hj : pos t.mask (bits h) k0 = j at *
  have hgt : ∀ i, below t.place j ≤ i → i < t.place.size → j < t.place.getD i 0 := fun i h1 h2 => by
    have h3 := b3 i h1 h2
    have h4 : t.place.getD i 0 ≠ j := fun z => hfree i (by rw [of_getD h2, z])
    omega
  have old : ∀ i v : Nat, t.place[i]? = some v → ∃ i' : Nat, (insertAt t.place (below t.place j) j)[i']? = some v := fun i v hv => by
    by_cases hi : i < below t.place j
    · exact ⟨i, by rw [insertAt_get _ _ _ b1, if_pos hi]; exact hv⟩
    · exact ⟨i + 1, by rw [insertAt_get _ _ _ b1, if_neg (by omega), if_neg (by omega)]; exact hv⟩
  have gd : ∀ i, i < (insertAt t.place (below t.place j) j).size → (insertAt t.place (below t.place j) j).getD i 0 = if i < below t.place j then t.place.getD i 0 else if i = below t.place j then j else t.place.getD (i - 1) 0 := fun i hi => by
    have e1 := of_getD hi
    rw [insertAt_get _ _ _ b1] at e1
    rw [insertAt_size _ _ _ b1] at hi
    by_cases h1 : i < below t.place j
    · rw [if_pos h1] at e1 ⊢
      exact (getD_of e1).2.symm
    · rw [if_neg h1] at e1 ⊢
      by_cases h2 : i = below t.place j
      · rw [if_pos h2] at e1 ⊢
        exact (Option.some.inj e1).symm
      · rw [if_neg h2] at e1 ⊢
        exact (getD_of e1).2.symm
  refine ⟨ok.full, ok.odd, ok.nod, fun i i' hii hi' => ?_, fun i v hv => ?_, ?_, fun i v e hv hee => ?_⟩
  · have hi'' := hi'
    show (insertAt t.place (below t.place j) j).getD i 0 < (insertAt t.place (below t.place j) j).getD i' 0
    rw [gd i (Nat.lt_trans hii hi'), gd i' hi']
    have hsz : i' < t.place.size + 1 := by rw [← insertAt_size _ _ j b1]; exact hi'
    by_cases h1 : i' < below t.place j
    · rw [if_pos (show i < below t.place j by omega), if_pos h1]
      exact ok.rise i i' hii (by omega)
    · rw [if_neg h1]
      by_cases h2 : i' = below t.place j
      · rw [if_pos h2, if_pos (show i < below t.place j by omega)]
        exact b2 i (by omega)
      · rw [if_neg h2]
        by_cases h3 : i < below t.place j
        · rw [if_pos h3]
          have q1 := b2 i h3
          have q2 := hgt (i' - 1) (by omega) (by omega)
          omega
        · rw [if_neg h3]
          by_cases h4 : i = below t.place j
          · rw [if_pos h4]
            exact hgt (i' - 1) (by omega) (by omega)
          · rw [if_neg h4]
            exact ok.rise (i - 1) (i' - 1) (by omega) (by omega)
  · have hv' : (insertAt t.place (below t.place j) j)[i]? = some v := hv
    rw [insertAt_get _ _ _ b1] at hv'
    by_cases h1 : i < below t.place j
    · rw [if_pos h1] at hv'; exact ok.le i v hv'
    · rw [if_neg h1] at hv'
      by_cases h2 : i = below t.place j
      · rw [if_pos h2] at hv'; cases hv'; exact hlt
      · rw [if_neg h2] at hv'; exact ok.le (i - 1) v hv'
  · show (insertAt t.place (below t.place j) j).size = (insertAt es (below t.place j) (h, x)).size
    rw [insertAt_size _ _ _ b1, insertAt_size _ _ _ b1', ok.size]
  · have hv' : (insertAt t.place (below t.place j) j)[i]? = some v := hv
    rw [insertAt_get _ _ _ b1] at hv'
    rw [insertAt_get _ _ _ b1'] at hee
    have goal : ∀ (i0 : Nat), t.place[i0]? = some v → es[i0]? = some e → ∃ k, pos t.mask (bits e.1) k = v ∧ ∀ k', k' < k → ∃ i' : Nat, (insertAt t.place (below t.place j) j)[i']? = some (pos t.mask (bits e.1) k') := fun i0 q1 q2 => by
      obtain ⟨k, hk, hp⟩ := ok.path i0 v e q1 q2
      exact ⟨k, hk, fun k' hk' => let ⟨i', q⟩ := hp k' hk'; old i' _ q⟩
    by_cases h1 : i < below t.place j
    · rw [if_pos h1] at hv' hee; exact goal i hv' hee
    · rw [if_neg h1] at hv' hee
      by_cases h2 : i = below t.place j
      · rw [if_pos h2] at hv' hee
        cases hv'
        cases hee
        refine ⟨k0, hj, fun k' hk' => ?_⟩
        obtain ⟨i', _, q⟩ := hl k' hk'
        exact old i' _ q
      · rw [if_neg h2] at hv' hee; exact goal (i - 1) hv' hee
end SetT

set_option linter.all false
set_option maxRecDepth 100000
namespace SetT
open PySem PySem.SetTable
/-! ### laying all anew -/
def Occ (owner : Array (Option Nat)) (j : Nat) : Prop := (owner.getD j (some 0)).isNone = false
theorem free_spec {mask b : Nat} {owner : Array (Option Nat)} : ∀ (fuel n kn : Nat), stk mask b kn = { j := (rs mask b n).1, more := runEnd mask (rs mask b n).1 - (rs mask b n).1, i := (rs mask b n).1, perturb := (rs mask b n).2, dummy := none } →
    (∃ n', n ≤ n' ∧ n' < n + fuel ∧ ¬ Occ owner (rs mask b n').1) →
    ∃ k j, layClean.free mask owner fuel (rs mask b n).1 (rs mask b n).2 = some j ∧ kn ≤ k ∧ pos mask b k = j ∧ ¬ Occ owner j ∧ ∀ k', kn ≤ k' → k' < k → Occ owner (pos mask b k')
  | 0, n, kn, _, ⟨n', h1, h2, _⟩ => absurd h2 (by omega)
  | fuel + 1, n, kn, hk, ⟨n', h1, h2, hf⟩ => by
    unfold layClean.free
    have run := stk_run mask b hk
    have ge : (rs mask b n).1 ≤ runEnd mask (rs mask b n).1 := by unfold runEnd; split <;> omega
    cases hfi : (List.range (runEnd mask (rs mask b n).1 + 1 - (rs mask b n).1)).find? fun k => (owner.getD ((rs mask b n).1 + k) (some 0)).isNone with
    | some m =>
      obtain ⟨p1, p2, p3⟩ := List.find?_range_eq_some.mp hfi
      have hm : m < runEnd mask (rs mask b n).1 + 1 - (rs mask b n).1 := by simpa using p2
      refine ⟨kn + m, (rs mask b n).1 + m, rfl, by omega, ?_, ?_, fun k' a1 a2 => ?_⟩
      · unfold pos; rw [run m (by omega)]
      · unfold Occ; rw [p1]; simp
      · obtain ⟨d, rfl⟩ : ∃ d, k' = kn + d := ⟨k' - kn, by omega⟩
        have q := p3 d (by omega)
        unfold pos Occ
        rw [run d (by omega)]
        simpa using q
    | none =>
      have p := List.find?_range_eq_none.mp hfi
      have occ : ∀ m, m < runEnd mask (rs mask b n).1 + 1 - (rs mask b n).1 → Occ owner ((rs mask b n).1 + m) := fun m hm => by
        have q := p m hm
        unfold Occ
        simpa using q
      have hne : n ≠ n' := fun z => by
        subst z
        exact hf (by simpa using occ 0 (by omega))
      have hk' : stk mask b (kn + (runEnd mask (rs mask b n).1 - (rs mask b n).1) + 1) = { j := (rs mask b (n + 1)).1, more := runEnd mask (rs mask b (n + 1)).1 - (rs mask b (n + 1)).1, i := (rs mask b (n + 1)).1, perturb := (rs mask b (n + 1)).2, dummy := none } := by
        show adv mask (stk mask b (kn + (runEnd mask (rs mask b n).1 - (rs mask b n).1))) = _
        rw [run _ (Nat.le_refl _)]
        unfold adv
        rw [if_neg (by show ¬ runEnd mask (rs mask b n).1 - (rs mask b n).1 - (runEnd mask (rs mask b n).1 - (rs mask b n).1) > 0; omega)]
        rfl
      obtain ⟨k, j, e1, e2, e3, e4, e5⟩ := free_spec fuel (n + 1) _ hk' ⟨n', by omega, by omega, hf⟩
      refine ⟨k, j, e1, by omega, e3, e4, fun k' a1 a2 => ?_⟩
      by_cases q : k' < kn + (runEnd mask (rs mask b n).1 - (rs mask b n).1) + 1
      · obtain ⟨d, rfl⟩ : ∃ d, k' = kn + d := ⟨k' - kn, by omega⟩
        unfold pos
        rw [run d (by omega)]
        exact occ d (by omega)
      · exact e5 k' (by omega) a2
/-- the places while they are laid: k of the hashes stand -/
structure LayOk (mask : Nat) (hs : List Int) (owner : Array (Option Nat)) (k : Nat) : Prop where
  size : owner.size = mask + 1
  cnt : owner.toList.countP (·.isNone) + k = mask + 1
  lt : ∀ (j m : Nat), owner[j]? = some (some m) → m < k
  has : ∀ m, m < k → ∃ j : Nat, owner[j]? = some (some m)
  path : ∀ (j m : Nat) (h : Int), owner[j]? = some (some m) → hs[m]? = some h → ∃ kk, pos mask (bits h) kk = j ∧ ∀ k', k' < kk → Occ owner (pos mask (bits h) k')
theorem countP_set : ∀ (l : List (Option Nat)) (j m : Nat), l[j]? = some none → (l.set j (some m)).countP (·.isNone) + 1 = l.countP (·.isNone)
  | [], _, _, h => by simp at h
  | a :: l, 0, m, h => by
    simp at h
    subst h
    simp [List.countP_cons]
  | a :: l, j + 1, m, h => by
    have ih := countP_set l j m (by simpa using h)
    simp only [List.set_cons_succ, List.countP_cons]
    omega
theorem lay_step {mask k : Nat} {hs : List Int} {owner : Array (Option Nat)} {h : Int} (hf : fullB mask = true) (L : LayOk mask hs owner k) (hh : hs[k]? = some h) (room : k < mask + 1) :
    ∃ j, layClean.free mask owner (turns mask) (bits h % (mask + 1)) (bits h) = some j ∧ LayOk mask hs (owner.setIfInBounds j (some k)) (k + 1) := by
  have hpos : 0 < owner.toList.countP (·.isNone) := by have := L.cnt; omega
  obtain ⟨o, ho1, ho2⟩ := List.countP_pos_iff.mp hpos
  obtain ⟨z, hz, ez⟩ := List.getElem_of_mem ho1
  have hz' : z < owner.size := by simpa using hz
  have ez' : owner[z]? = some none := by
    rw [← Array.getElem?_toList, List.getElem?_eq_getElem hz, ez]
    cases o with
    | none => rfl
    | some _ => cases ho2
  have hnocc : ¬ Occ owner z := by
    unfold Occ
    rw [Array.getD_eq_getD_getElem?, ez']
    simp
  obtain ⟨n, hn, en⟩ := reach hf (bits_lt h) (show z < mask + 1 by rw [← L.size]; exact hz')
  obtain ⟨kk, j, e1, _, e3, e4, e5⟩ := free_spec (mask := mask) (b := bits h) (owner := owner) (turns mask) 0 0 rfl ⟨n, Nat.zero_le _, by unfold turns; omega, by rw [en]; exact hnocc⟩
  have hj : owner[j]? = some none := by
    cases q : owner[j]? with
    | none =>
      refine absurd ?_ e4
      unfold Occ
      rw [Array.getD_eq_getD_getElem?, q]
      rfl
    | some o =>
      cases o with
      | none => rfl
      | some m =>
        refine absurd ?_ e4
        unfold Occ
        rw [Array.getD_eq_getD_getElem?, q]
        rfl
  have hjs : j < owner.size := (Array.getElem?_eq_some_iff.mp hj).1
  have get : ∀ i : Nat, (owner.setIfInBounds j (some k))[i]? = if j = i then some (some k) else owner[i]? := fun i => by
    rw [Array.getElem?_setIfInBounds]
    by_cases q : j = i
    · subst q; simp [hjs]
    · simp [q]
  have occ' : ∀ i, Occ owner i → Occ (owner.setIfInBounds j (some k)) i := fun i q => by
    unfold Occ at q ⊢
    rw [Array.getD_eq_getD_getElem?] at q ⊢
    rw [get]
    by_cases z : j = i
    · rw [if_pos z]; rfl
    · rw [if_neg z]; exact q
  refine ⟨j, e1, ⟨by rw [Array.size_setIfInBounds]; exact L.size, ?_, fun i m hm => ?_, fun m hm => ?_, fun i m h' hm hh' => ?_⟩⟩
  · have c := countP_set owner.toList j k (by rw [Array.getElem?_toList]; exact hj)
    have e : (owner.setIfInBounds j (some k)).toList = owner.toList.set j (some k) := by simp
    rw [e]
    have := L.cnt
    omega
  · rw [get] at hm
    by_cases q : j = i
    · rw [if_pos q] at hm; cases hm; omega
    · rw [if_neg q] at hm; have := L.lt i m hm; omega
  · by_cases q : m = k
    · exact ⟨j, by rw [get, if_pos rfl, q]⟩
    · obtain ⟨i, hi⟩ := L.has m (by omega)
      refine ⟨i, ?_⟩
      rw [get, if_neg (fun z => by subst z; rw [hj] at hi; cases hi)]
      exact hi
  · rw [get] at hm
    by_cases q : j = i
    · rw [if_pos q] at hm
      cases hm
      rw [hh] at hh'
      cases hh'
      exact ⟨kk, by rw [e3, q], fun k' hk' => occ' _ (e5 k' (Nat.zero_le _) hk')⟩
    · rw [if_neg q] at hm
      obtain ⟨k2, a1, a2⟩ := L.path i m h' hm hh'
      exact ⟨k2, a1, fun k' hk' => occ' _ (a2 k' hk')⟩
theorem lay_fold {mask : Nat} (hf : fullB mask = true) (hs : List Int) : ∀ (l : List Int) (owner : Array (Option Nat)) (k : Nat), hs.drop k = l → k + l.length ≤ mask → LayOk mask hs owner k →
    ∃ owner', l.foldl (fun acc h => do
      let (owner, k) ← acc
      let j ← layClean.free mask owner (turns mask) (bits h % (mask + 1)) (bits h)
      pure (owner.setIfInBounds j (some k), k + 1)) (some (owner, k)) = some (owner', k + l.length) ∧ LayOk mask hs owner' (k + l.length)
  | [], owner, k, _, _, L => ⟨owner, rfl, L⟩
  | h :: l, owner, k, hd, hl, L => by
    rw [List.length_cons] at hl
    have hk : hs[k]? = some h := by
      have := congrArg (fun x => x[0]?) hd
      simpa using this
    obtain ⟨j, e1, L'⟩ := lay_step hf L hk (by omega)
    have hd' : hs.drop (k + 1) = l := by
      have := congrArg List.tail hd
      simpa using this
    obtain ⟨o2, e2, L2⟩ := lay_fold hf hs l (owner.setIfInBounds j (some k)) (k + 1) hd' (by omega) L'
    refine ⟨o2, ?_, by rw [List.length_cons, show k + (l.length + 1) = k + 1 + l.length by omega]; exact L2⟩
    rw [List.foldl_cons, List.length_cons, show k + (l.length + 1) = k + 1 + l.length by omega, ← e2]
    congr 1
    show (Option.bind (layClean.free mask owner (turns mask) (bits h % (mask + 1)) (bits h)) fun j => some (owner.setIfInBounds j (some k), k + 1)) = _
    rw [e1]
    rfl
theorem lay_ok {mask : Nat} (hf : fullB mask = true) (hs : Array Int) (hl : hs.size ≤ mask) : ∃ owner, layClean mask hs = some owner ∧ LayOk mask hs.toList owner hs.size := by
  have L0 : LayOk mask hs.toList (Array.replicate (mask + 1) none) 0 := by
    refine ⟨by simp, by simp [List.countP_replicate], fun j m h => ?_, fun m h => absurd h (Nat.not_lt_zero _), fun j m h q => ?_⟩
    · rw [Array.getElem?_replicate] at h
      split at h <;> cases h
    · rw [Array.getElem?_replicate] at q
      split at q <;> cases q
  obtain ⟨o, e, L⟩ := lay_fold hf hs.toList hs.toList _ 0 rfl (by simpa using hl) L0
  refine ⟨o, ?_, by simpa using L⟩
  unfold layClean
  rw [← Array.foldl_toList, e]
  rfl

/-! ### the table that is laid -/
def liveL (mask : Nat) (owner : Array (Option Nat)) : List (Nat × Nat) := (List.range (mask + 1)).filterMap fun j => (owner.getD j none).map (j, ·)
theorem mem_live {mask : Nat} {owner : Array (Option Nat)} {p : Nat × Nat} : p ∈ liveL mask owner ↔ p.1 < mask + 1 ∧ owner[p.1]? = some (some p.2) := by
  unfold liveL
  rw [List.mem_filterMap]
  constructor
  · rintro ⟨j, hj, e⟩
    rw [Array.getD_eq_getD_getElem?] at e
    cases q : owner[j]? with
    | none => rw [q] at e; cases e
    | some o =>
      rw [q] at e
      cases o with
      | none => cases e
      | some m =>
        have e' : (j, m) = p := Option.some.inj e
        subst e'
        exact ⟨List.mem_range.mp hj, q⟩
  · rintro ⟨h1, h2⟩
    refine ⟨p.1, List.mem_range.mpr h1, ?_⟩
    rw [Array.getD_eq_getD_getElem?, h2]
    rfl
theorem live_rise (mask : Nat) (owner : Array (Option Nat)) : (liveL mask owner).Pairwise fun p q => p.1 < q.1 := by
  unfold liveL
  rw [List.pairwise_filterMap]
  refine List.Pairwise.imp (fun {a b} hab => ?_) List.pairwise_lt_range
  intro p hp q hq
  have e1 : p.1 = a := by
    cases z : owner.getD a none with
    | none => rw [z] at hp; cases hp
    | some m => rw [z] at hp; have := Option.some.inj hp; rw [← this]
  have e2 : q.1 = b := by
    cases z : owner.getD b none with
    | none => rw [z] at hq; cases hq
    | some m => rw [z] at hq; have := Option.some.inj hq; rw [← this]
  rw [e1, e2]
  exact hab
theorem countP_not (l : List (Option Nat)) : l.countP (·.isNone) + l.countP (·.isSome) = l.length := by
  induction l with
  | nil => rfl
  | cons a l ih =>
    simp only [List.countP_cons, List.length_cons]
    cases a with
    | none => simp; omega
    | some m => simp; omega
theorem fm_len (f : Nat → Option Nat) : ∀ l : List Nat, (l.filterMap fun j => (f j).map (j, ·)).length = (l.map f).countP (·.isSome)
  | [] => rfl
  | a :: l => by
    have ih := fm_len f l
    rw [List.filterMap_cons, List.map_cons, List.countP_cons]
    cases q : f a with
    | none => simpa using ih
    | some m => simpa using ih
theorem live_len {mask k : Nat} {hs : List Int} {owner : Array (Option Nat)} (L : LayOk mask hs owner k) : (liveL mask owner).length = k := by
  unfold liveL
  rw [fm_len]
  have e : (List.range (mask + 1)).map (fun j => owner.getD j none) = owner.toList := by
    refine List.ext_getElem? fun i => ?_
    rw [List.getElem?_map]
    by_cases hi : i < mask + 1
    · rw [List.getElem?_range hi]
      have hi' : i < owner.size := by rw [L.size]; exact hi
      simp [Array.getD, hi']
    · have h1 : (List.range (mask + 1))[i]? = none := List.getElem?_eq_none (by rw [List.length_range]; omega)
      have h2 : owner.toList[i]? = none := List.getElem?_eq_none (by rw [Array.length_toList, L.size]; omega)
      rw [h1, h2]
      rfl
  rw [e]
  have c := countP_not owner.toList
  have := L.cnt
  rw [Array.length_toList, L.size] at c
  omega
theorem fm_all {es : Array (Int × Value)} : ∀ l : List Nat, (∀ m ∈ l, m < es.size) → ∀ i : Nat, (l.filterMap (es[·]?))[i]? = (l[i]?).bind (es[·]?)
  | [], _, i => by simp
  | m :: l, h, i => by
    have hm := h m (.head _)
    have ih := fm_all l fun x hx => h x (.tail _ hx)
    rw [List.filterMap_cons]
    have e : es[m]? = some es[m] := by simp [hm]
    rw [e]
    cases i with
    | zero => simp [e]
    | succ i => simpa using ih i
theorem fm_size {es : Array (Int × Value)} : ∀ l : List Nat, (∀ m ∈ l, m < es.size) → (l.filterMap (es[·]?)).length = l.length
  | [], _ => rfl
  | m :: l, h => by
    have hm := h m (.head _)
    have ih := fm_size l fun x hx => h x (.tail _ hx)
    rw [List.filterMap_cons]
    have e : es[m]? = some es[m] := by simp [hm]
    rw [e]
    simp [ih]
theorem stk_in (mask b : Nat) : ∀ k, (stk mask b k).j + (stk mask b k).more ≤ mask ∧ (stk mask b k).i < mask + 1
  | 0 => by
    have h := Nat.mod_lt b (show 0 < mask + 1 by omega)
    refine ⟨?_, h⟩
    show b % (mask + 1) + (runEnd mask (b % (mask + 1)) - b % (mask + 1)) ≤ mask
    unfold runEnd
    split <;> omega
  | k + 1 => by
    obtain ⟨h1, h2⟩ := stk_in mask b k
    show (adv mask (stk mask b k)).j + (adv mask (stk mask b k)).more ≤ mask ∧ (adv mask (stk mask b k)).i < mask + 1
    unfold adv
    split
    · exact ⟨by show (stk mask b k).j + 1 + ((stk mask b k).more - 1) ≤ mask; omega, h2⟩
    · have h := Nat.mod_lt ((stk mask b k).i * 5 + 1 + (stk mask b k).perturb / 32) (show 0 < mask + 1 by omega)
      refine ⟨?_, h⟩
      show (leap mask (stk mask b k).i (stk mask b k).perturb).1 + (runEnd mask (leap mask (stk mask b k).i (stk mask b k).perturb).1 - (leap mask (stk mask b k).i (stk mask b k).perturb).1) ≤ mask
      have h' : (leap mask (stk mask b k).i (stk mask b k).perturb).1 < mask + 1 := h
      unfold runEnd
      split <;> omega
theorem posLt (mask b k : Nat) : pos mask b k < mask + 1 := by
  have := (stk_in mask b k).1
  unfold pos
  omega
/-- THE RELAYING: a good table, the same elements -/
theorem relaid_ok {t : SetTable} {es : Array (Int × Value)} {wanted : Nat} (hf : fullB (sizeAbove wanted - 1) = true) (ho : (sizeAbove wanted - 1) % 2 = 1) (hl : es.size ≤ sizeAbove wanted - 1) :
    ∃ t' order, t.relaid (es.map (·.1)) wanted = some (t', order) ∧ (order.filterMap (es[·]?)).size = es.size ∧ SetOk t' (order.filterMap (es[·]?)) ∧ t'.mask = sizeAbove wanted - 1 ∧ t'.plain = t.plain ∧ t'.led = t.led ∧ (∀ e, e ∈ (order.filterMap (es[·]?)).toList ↔ e ∈ es.toList) := by
  generalize hmask : sizeAbove wanted - 1 = mask at *
  obtain ⟨owner, e0, L⟩ := lay_ok hf (es.map (·.1)) (by rw [Array.size_map]; exact hl)
  rw [Array.size_map] at L
  have hlen := live_len L
  have mlt : ∀ m ∈ (liveL mask owner).map (·.2), m < es.size := fun m hm => by
    obtain ⟨p, hp, rfl⟩ := List.mem_map.mp hm
    exact L.lt _ _ (mem_live.mp hp).2
  refine ⟨{ mask := mask, place := ((liveL mask owner).map (·.1)).toArray, dummies := #[], finger := t.finger, led := t.led, moves := t.movedTo mask, plain := t.plain }, ((liveL mask owner).map (·.2)).toArray, ?_, ?_, ?_, rfl, rfl, rfl, fun e => ?_⟩
  · unfold SetTable.relaid SetTable.laid
    rw [hmask, e0]
    rfl
  · rw [List.filterMap_toArray, List.size_toArray, fm_size _ mlt, List.length_map, hlen]
  · have pl : ∀ i : Nat, (((liveL mask owner).map (·.1)).toArray)[i]? = ((liveL mask owner)[i]?).map (·.1) := fun i => by rw [List.getElem?_toArray, List.getElem?_map]
    have inPlace : ∀ j, Occ owner j → j < mask + 1 → ∃ i : Nat, (((liveL mask owner).map (·.1)).toArray)[i]? = some j := fun j hj hjm => by
      have hs : j < owner.size := by rw [L.size]; exact hjm
      obtain ⟨m, hm⟩ : ∃ m, owner[j]? = some (some m) := by
        unfold Occ at hj
        rw [Array.getD_eq_getD_getElem?] at hj
        cases q : owner[j]? with
        | none => simp [hs] at q
        | some o =>
          cases o with
          | none => rw [q] at hj; cases hj
          | some m => exact ⟨m, rfl⟩
      obtain ⟨i, hi, ei⟩ := List.getElem_of_mem (mem_live.mpr (show ((j, m) : Nat × Nat).1 < mask + 1 ∧ owner[((j, m) : Nat × Nat).1]? = some (some ((j, m) : Nat × Nat).2) from ⟨hjm, hm⟩))
      exact ⟨i, by rw [pl, List.getElem?_eq_getElem hi, ei]; rfl⟩
    refine ⟨hf, ho, rfl, fun i j hij hj => ?_, fun i v hv => ?_, ?_, fun i v e hv he => ?_⟩
    · have hj' : j < (liveL mask owner).length := by simpa using hj
      have q := List.pairwise_iff_getElem.mp (live_rise mask owner) i j (by omega) hj' hij
      show (((liveL mask owner).map (·.1)).toArray).getD i 0 < (((liveL mask owner).map (·.1)).toArray).getD j 0
      rw [Array.getD_eq_getD_getElem?, Array.getD_eq_getD_getElem?, pl, pl, List.getElem?_eq_getElem hj', List.getElem?_eq_getElem (by omega)]
      exact q
    · have hv' : (((liveL mask owner).map (·.1)).toArray)[i]? = some v := hv
      rw [pl] at hv'
      cases q : (liveL mask owner)[i]? with
      | none => rw [q] at hv'; cases hv'
      | some p =>
        rw [q] at hv'
        have e : p.1 = v := Option.some.inj hv'
        rw [← e]
        exact (mem_live.mp (List.mem_of_getElem? q)).1
    · show (((liveL mask owner).map (·.1)).toArray).size = _
      rw [List.filterMap_toArray, List.size_toArray, List.size_toArray, fm_size _ mlt, List.length_map, List.length_map]
    · have hv' : (((liveL mask owner).map (·.1)).toArray)[i]? = some v := hv
      rw [pl] at hv'
      rw [List.filterMap_toArray, List.getElem?_toArray, fm_all _ mlt, List.getElem?_map] at he
      cases q : (liveL mask owner)[i]? with
      | none => rw [q] at hv'; cases hv'
      | some p =>
        rw [q] at hv' he
        have e1 : p.1 = v := Option.some.inj hv'
        have e2 : es[p.2]? = some e := he
        obtain ⟨pm, po⟩ := mem_live.mp (List.mem_of_getElem? q)
        have eh : (es.map (·.1)).toList[p.2]? = some e.1 := by
          rw [Array.getElem?_toList, Array.getElem?_map, e2]
          rfl
        obtain ⟨kk, a1, a2⟩ := L.path p.1 p.2 e.1 po eh
        refine ⟨kk, by rw [← e1]; exact a1, fun k' hk' => inPlace _ (a2 k' hk') ?_⟩
        exact Classical.byContradiction fun hge => by
          have := a2 k' hk'
          have hp : pos mask (bits e.1) k' < mask + 1 := posLt mask (bits e.1) k'
          exact hge hp
  · rw [List.filterMap_toArray, List.mem_filterMap]
    constructor
    · rintro ⟨m, hm, q⟩
      have := Array.mem_of_getElem? q
      exact Array.mem_toList_iff.mpr this
    · intro he
      obtain ⟨m, hm, em⟩ := List.getElem_of_mem he
      have hm' : m < es.size := by simpa using hm
      obtain ⟨j, hj⟩ := L.has m hm'
      have hjm : j < mask + 1 := by
        rw [← L.size]
        exact (Array.getElem?_eq_some_iff.mp hj).1
      refine ⟨m, List.mem_map.mpr ⟨(j, m), mem_live.mpr ⟨hjm, hj⟩, rfl⟩, ?_⟩
      rw [← em]
      simp
end SetT

set_option Elab.async false
set_option linter.all false
set_option maxRecDepth 100000
set_option maxHeartbeats 4000000
namespace SetT
open PySem PySem.SetTable PySem.Spec PyProof.Rows
variable {prog : Program} {w : World} {N : Addr → Prop} {A : Around} {E : Value → Shared → Prop} {s : Shared}
abbrev IsP (prog : Program) (w : World) (h : Heap) (k : List Int) (b : Addr) : Prop := IsTupleKey (intKind prog w) h k b
abbrev hk (prog : Program) (w : World) (k : List Int) : Int := (tupleKind (intKind prog w)).hash k
/-- an entry bears the key k -/
def EntK (prog : Program) (w : World) (N : Addr → Prop) (h : Heap) (e : Int × Value) (k : List Int) : Prop := ∃ b, (e.2 = .ref b ∧ N b) ∧ IsP prog w h k b ∧ e.1 = hk prog w k
theorem EntK.inj {h : Heap} {e : Int × Value} {k k' : List Int} (x : EntK prog w N h e k) (y : EntK prog w N h e k') : k = k' := by
  obtain ⟨b, ⟨e1, _⟩, p, _⟩ := x
  obtain ⟨b', ⟨e2, _⟩, p', _⟩ := y
  rw [e1] at e2
  cases e2
  exact p.inj p'
theorem items_int {ks : List Int} {vs : List Value} (h : ItemsAre (intKind prog w) ks vs) : ∀ v ∈ vs, ∃ i t, v = .int i t := by
  induction h with
  | nil => intro v hv; simp at hv
  | @cons k v' ks vs h1 _ ih =>
    intro v hv
    rcases List.mem_cons.mp hv with rfl | hv
    · obtain ⟨t, e⟩ := Value.isInt_shape (k := k) (v := v) h1
      exact ⟨k, t, e⟩
    · exact ih v hv
theorem fits_of {t : SetTable} {es : Array (Int × Value)} (ok : SetOk t es) (room : es.size < t.mask + 1) : t.fits es.size = true := by
  unfold SetTable.fits SetTable.fill
  rw [ok.size, ok.nod]
  simp
  omega
/-- whether its hash goes by values: some answer, nothing changed -/
theorem hashByValue_tuple {k : List Int} {b : Addr} {Q : Bool → Shared → Prop} (hp : IsP prog w s.heap k b) (h : ∀ r, Q r s) : wpAny (model prog w) A (hashByValue 8 (.ref b)) Q E s := by
  have hT := hp.typeIs
  obtain ⟨o, items, n, ho, _, hd, hi⟩ := hp
  unfold hashByValue
  refine wpAny_bind (wpAny_specialOf hT F.slot_tuple_hash.lookup ?_)
  show wpAny _ _ (seqItems? (.ref b) >>= _) _ _ s
  refine wpAny_bind (wpAny_seqItems ho hd ?_)
  refine wpAny_bind ?_
  show wpAny _ _ (forIn items _ _) _ _ s
  rw [← Array.forIn_toList]
  refine wpAny_forIn_list _ (fun rest r s' => r.1 = none ∧ s' = s ∧ ∀ v ∈ rest, ∃ i t, v = Value.int i t) _ ?_ ?_ _ _ ⟨rfl, rfl, items_int hi⟩
  · rintro v rest r s' ⟨hr, rfl, hall⟩
    obtain ⟨i, t, rfl⟩ := hall v List.mem_cons_self
    refine wpAny_bind (wpAny_pure ?_)
    simp only [Bool.not_true, Bool.false_eq_true, if_false]
    exact wpAny_pure ⟨rfl, rfl, fun u hu' => hall u (List.mem_cons_of_mem _ hu')⟩
  · rintro ⟨r1, r2⟩ s' ⟨hr, rfl, _⟩
    simp only at hr
    subst hr
    exact wpAny_pure (h _)
theorem classStatement_tuple {k : List Int} {b : Addr} {Q : Bool → Shared → Prop} (hp : IsP prog w s.heap k b) (h : Q false s) : wpAny (model prog w) A (ofAClassStatement 8 (.ref b)) Q E s := by
  have hT := hp.typeIs
  obtain ⟨o, items, n, ho, hc, hd, hi⟩ := hp
  unfold ofAClassStatement
  refine wpAny_bind (wpAny_typeOf hT ?_)
  show wpAny _ _ ((if (("tuple" : String) == "tuple") = true then pure true else isSubtype (.type "tuple") (.type "tuple")) >>= _) _ _ s
  rw [if_pos (by decide)]
  refine wpAny_bind (wpAny_pure ?_)
  simp only [Bool.not_true, Bool.false_eq_true, if_false]
  refine wpAny_bind (wpAny_seqItems ho hd ?_)
  show wpAny _ _ (forIn items _ _ >>= _) _ _ s
  refine wpAny_bind ?_
  rw [← Array.forIn_toList]
  refine wpAny_forIn_list _ (fun rest r s' => r.1 = none ∧ s' = s ∧ ∀ v ∈ rest, ∃ i t, v = Value.int i t) _ ?_ ?_ _ _ ⟨rfl, rfl, items_int hi⟩
  · rintro v rest r s' ⟨hr, rfl, hall⟩
    obtain ⟨i, t, rfl⟩ := hall v List.mem_cons_self
    refine wpAny_bind (wpAny_pure ?_)
    simp only [Bool.false_eq_true, if_false]
    exact wpAny_pure ⟨rfl, rfl, fun u hu' => hall u (List.mem_cons_of_mem _ hu')⟩
  · rintro ⟨r1, r2⟩ s' ⟨hr, rfl, _⟩
    simp only at hr
    subst hr
    exact wpAny_pure h
theorem unseen {k : List Int} {b : Addr} {Q : Bool → Shared → Prop} (hp : IsP prog w s.heap k b) (l : List Value) (hl : ∀ y ∈ l, ∃ c k', y = .ref c ∧ IsP prog w s.heap k' c) (h : Q false s) : wpAny (model prog w) A (searchCouldBeSeen (.ref b) l) Q E s := by
  unfold searchCouldBeSeen
  refine wpAny_bind ?_
  refine wpAny_forIn_list _ (fun rest r s' => r.1 = none ∧ s' = s ∧ ∀ y ∈ rest, ∃ c k', y = Value.ref c ∧ IsP prog w s.heap k' c) _ ?_ ?_ _ _ ⟨rfl, rfl, hl⟩
  · rintro y rest r s' ⟨hr, rfl, hall⟩
    obtain ⟨c, k', rfl, hc⟩ := hall y List.mem_cons_self
    have rest' : ∀ y ∈ rest, ∃ c k', y = Value.ref c ∧ IsP prog w s'.heap k' c := fun u hu => hall u (List.mem_cons_of_mem _ hu)
    dsimp only
    by_cases hv : ((b == c) || (carriedByValue (Value.ref b) && carriedByValue (Value.ref c))) = true
    · rw [if_pos hv]
      exact wpAny_pure ⟨rfl, rfl, rest'⟩
    · rw [if_neg hv]
      refine wpAny_bind (wpAny_eqIsQuiet_tuple hp ?_)
      simp only [Bool.not_true, Bool.false_eq_true, if_false]
      refine wpAny_bind (wpAny_eqIsQuiet_tuple hc ?_)
      simp only [Bool.not_true, Bool.false_eq_true, if_false]
      refine wpAny_bind (classStatement_tuple hp ?_)
      simp only [Bool.false_eq_true, if_false]
      refine wpAny_bind (classStatement_tuple hc ?_)
      simp only [Bool.false_eq_true, if_false]
      exact wpAny_pure ⟨rfl, rfl, rest'⟩
  · rintro ⟨r1, r2⟩ s' ⟨hr, rfl, _⟩
    simp only at hr
    subst hr
    exact wpAny_pure h
end SetT

set_option Elab.async false
set_option linter.all false
set_option maxRecDepth 100000
set_option maxHeartbeats 4000000
namespace SetT
open PySem PySem.SetTable PySem.Spec PyProof.Rows
variable {prog : Program} {w : World} {N : Addr → Prop} {A : Around} {E : Value → Shared → Prop} {s : Shared}
def shAt (es : Array (Int × Value)) (i : Nat) : Int := (es[i]?.map (·.1)).getD 0
theorem storedHash {es : Array (Int × Value)} {i : Nat} {e : Int × Value} (h : es[i]? = some e) : shAt es i = e.1 := by
  unfold shAt
  rw [h]
  rfl
theorem search_from {a b : Addr} {o : Obj} {es : Array (Int × Value)} {ep : Nat} {t : SetTable} {k : List Int} {Q : SetFound → Shared → Prop} (hu : A.units < cLine) (ho : s.heap.get? a = some o) (hd : o.data = .set es ep t) (ok : SetOk t es) (room : es.size < t.mask + 1)
    (hes : ∀ e ∈ es.toList, ∃ k', EntK prog w N s.heap e k') (hp : IsP prog w s.heap k b)
    {k0 : Nat} (hk0 : t.slot (pos t.mask (bits (hk prog w k)) k0) = .empty) (hlt0 : k0 < 10 * turns t.mask) (hl : ∀ k', k' < k0 → ∃ i : Nat, t.slot (pos t.mask (bits (hk prog w k)) k') = .live i ∧ t.place[i]? = some (pos t.mask (bits (hk prog w k)) k'))
    (hfound : (∃ e ∈ es.toList, EntK prog w N s.heap e k) → Q (.there none) s) (hfree : (¬ ∃ e ∈ es.toList, EntK prog w N s.heap e k) → Q (.free (pos t.mask (bits (hk prog w k)) k0) false) s) :
    ∀ (fuel kk : Nat) (stand : Option Probe), stand.getD (t.probeStart (hk prog w k)) = stk t.mask (bits (hk prog w k)) kk → kk ≤ k0 → k0 - kk < fuel →
      (∀ k', k' < kk → ∀ (i : Nat) e, t.place[i]? = some (pos t.mask (bits (hk prog w k)) k') → es[i]? = some e → ¬ EntK prog w N s.heap e k) →
      wpAny (model prog w) A (setSearchFrom a (.ref b) (hk prog w k) true fuel stand) Q E s
  | 0, kk, stand, _, _, hf, _ => absurd hf (Nat.not_lt_zero _)
  | fuel + 1, kk, stand, hst, hkk, hf, hno => by
    have hfits := fits_of ok room
    have entAt : ∀ (i v : Nat), t.place[i]? = some v → ∃ e, es[i]? = some e ∧ ∃ k', EntK prog w N s.heap e k' := fun i v hv => by
      have hi : i < es.size := by rw [← ok.size]; exact (getD_of hv).1
      refine ⟨es[i], by simp [hi], hes _ ?_⟩
      simp
    unfold setSearchFrom
    refine wpAny_bind (wpAny_setState_of ho hd hfits ?_)
    dsimp only
    have hgw : t.gaveWay = false := by
      unfold SetTable.gaveWay
      rw [ok.odd]
      rfl
    rw [hgw]
    simp only [Bool.false_eq_true, if_false]
    have hprobe : ∀ f : Nat → Int, t.probe f (hk prog w k) (stand.getD (t.probeStart (hk prog w k))) = probe.go t f (hk prog w k) (10 * turns t.mask) (stk t.mask (bits (hk prog w k)) kk) := fun f => by
      rw [hst]
      rfl
    rw [hprobe]
    rcases go_spec ok (f := shAt es) (h := hk prog w k) hk0 hl (10 * turns t.mask) kk hkk (by omega) with ⟨e1, e2⟩ | ⟨k1, i, e1, e2, e3, e4, e5, e6, e7⟩
    · erw [e1]
      dsimp only
      refine wpAny_pure (hfree fun ⟨e, he, hek⟩ => ?_)
      obtain ⟨i, hi, ei⟩ := List.getElem_of_mem he
      have hi' : i < es.size := by simpa using hi
      have hei : es[i]? = some e := by rw [← Array.getElem?_toList, List.getElem?_eq_getElem hi, ei]
      have hpl : t.place[i]? = some (t.place.getD i 0) := of_getD (by rw [ok.size]; exact hi')
      obtain ⟨_, _, _, heh⟩ := id hek
      obtain ⟨k2, a1, a2⟩ := ok.path i _ e hpl hei
      rw [heh] at a1 a2
      rcases Nat.lt_trichotomy k2 k0 with q | q | q
      · by_cases hq : k2 < kk
        · exact hno k2 hq i e (by rw [a1]; exact hpl) hei hek
        · obtain ⟨i', p1, p2⟩ := e2 k2 (by omega) q
          rw [a1] at p1
          have : i' = i := by
            have u1 := below_at ok.rise p1
            have u2 := below_at ok.rise hpl
            omega
          subst this
          exact p2 (by rw [storedHash hei]; exact heh)
      · subst q
        rw [a1] at hk0
        exact slot_empty ok.rise hk0 i hpl
      · obtain ⟨i', p1⟩ := a2 k0 q
        exact slot_empty ok.rise hk0 i' p1
    · erw [e1]
      dsimp only
      obtain ⟨e, hei, ke, b', ⟨eb, hnb⟩, hpb, heh⟩ := entAt i _ e4
      have seen : ∀ (X : Sem SetFound), wpAny (model prog w) A X Q E s → wpAny (model prog w) A (if (!t.led) = true then do
          let r ← searchCouldBeSeen (.ref b) ((es.filter (·.1 == hk prog w k)).toList.map (·.2))
          if r = true then unsupported "set:the-search-would-show-the-table" else X
        else X) Q E s := fun X hX => by
        split
        · refine wpAny_bind (unseen hp _ (fun y hy => ?_) ?_)
          · obtain ⟨e', he', rfl⟩ := List.mem_map.mp hy
            have he2 : e' ∈ es.toList := by
              have := (Array.mem_filter.mp (Array.mem_toList_iff.mp he')).1
              exact Array.mem_toList_iff.mpr this
            obtain ⟨k3, b3, ⟨x1, _⟩, x2, _⟩ := hes e' he2
            exact ⟨b3, k3, x1, x2⟩
          · simp only [Bool.false_eq_true, if_false]
            exact hX
        · exact hX
      first
        | refine seen _ ?_
        | skip
      rw [hei]
      dsimp only
      rw [eb]
      refine wpAny_bind (wpAny_holding (wpAny_eqBool_tuple hu hpb hp ?_))
      refine wpAny_bind (wpAny_setState_of ho hd hfits ?_)
      dsimp only
      by_cases hkk' : ke = k
      · subst hkk'
        simp only [decide_true, Bool.and_self, if_true]
        refine wpAny_pure (hfound ⟨e, ?_, b', ⟨eb, hnb⟩, hpb, heh⟩)
        exact Array.mem_toList_iff.mpr (Array.mem_of_getElem? hei)
      · rw [decide_eq_false hkk']
        simp only [Bool.and_false, Bool.false_eq_true, if_false]
        have hsm : t.sameMemory t.moves t.mask = some true := by
          unfold SetTable.sameMemory
          rw [if_pos (by simp)]
        rw [hsm]
        dsimp only
        simp only [if_true]
        rw [e6]
        dsimp only
        rw [hei]
        dsimp only
        rw [eb]
        refine wpAny_bind (wpAny_isSame_ref_self (wpAny_bind (wpAny_pure ?_)))
        simp only [if_true]
        refine search_from hu ho hd ok room hes hp hk0 hlt0 hl hfound hfree fuel (k1 + 1) (some (stk t.mask (bits (hk prog w k)) (k1 + 1))) rfl (by omega) (by omega) fun k' hk' i' e' p1 p2 hek => ?_
        by_cases q : k' < kk
        · exact hno k' q i' e' p1 p2 hek
        · by_cases q2 : k' = k1
          · subst q2
            have : i' = i := by
              have u1 := below_at ok.rise p1
              have u2 := below_at ok.rise e4
              omega
            subst this
            rw [hei] at p2
            cases p2
            exact hkk' (EntK.inj ⟨b', ⟨eb, hnb⟩, hpb, heh⟩ hek)
          · obtain ⟨i2, p3, p4⟩ := e7 k' (by omega) (by omega)
            have : i' = i2 := by
              have u1 := below_at ok.rise p1
              have u2 := below_at ok.rise p3
              omega
            subst this
            obtain ⟨_, _, _, heh'⟩ := hek
            exact p4 (by rw [storedHash p2]; exact heh')
end SetT

set_option Elab.async false
set_option linter.all false
set_option maxRecDepth 100000
set_option maxHeartbeats 4000000
namespace SetT
open PySem PySem.SetTable PySem.Spec PyProof.Rows
variable {prog : Program} {w : World} {N : Addr → Prop} {A : Around} {E : Value → Shared → Prop} {s : Shared}
def Mk (m : Nat) : Prop := m = 7 ∨ m = 31 ∨ m = 127 ∨ m = 511
theorem Mk.full {m : Nat} (h : Mk m) : fullB m = true ∧ m % 2 = 1 := by
  rcases h with rfl | rfl | rfl | rfl
  · exact ⟨full7, rfl⟩
  · exact ⟨full31, rfl⟩
  · exact ⟨full127, rfl⟩
  · exact ⟨full511, rfl⟩
/-- the set at a holds the tuples ks -/
def SetP (prog : Program) (w : World) (N : Addr → Prop) (h : Heap) (a : Addr) (ks : List (List Int)) : Prop :=
  ∃ o es ep t, h.get? a = some o ∧ o.ExactSet ∧ o.data = .set es ep t ∧ SetOk t es ∧ Mk t.mask ∧ es.size * 5 < t.mask * 3 ∧ (∀ e ∈ es.toList, ∃ k, EntK prog w N h e k) ∧ (∀ k, k ∈ ks ↔ ∃ e ∈ es.toList, EntK prog w N h e k) ∧ es.size = ks.length ∧ ks.Nodup
theorem IsP.same {h h' : Heap} {k : List Int} {a b : Addr} {o : Obj} {es : Array (Int × Value)} {ep : Nat} {t : SetTable} (x : IsP prog w h k b) (ho : h.get? a = some o) (hd : o.data = .set es ep t) (hs : Heap.SameBut a h h') : IsP prog w h' k b := by
  obtain ⟨o', items, n, ho', hc, hd', hi⟩ := x
  have hne : b ≠ a := by
    rintro rfl
    obtain rfl : o' = o := Option.some.inj (ho'.symm.trans ho)
    rw [hd] at hd'; exact nomatch hd'
  exact ⟨o', items, n, (hs.2 b hne).trans ho', hc, hd', hi⟩
theorem EntK.same {h h' : Heap} {e : Int × Value} {k : List Int} {a : Addr} {o : Obj} {es : Array (Int × Value)} {ep : Nat} {t : SetTable} (x : EntK prog w N h e k) (ho : h.get? a = some o) (hd : o.data = .set es ep t) (hs : Heap.SameBut a h h') : EntK prog w N h' e k :=
  let ⟨b, e1, p, e2⟩ := x; ⟨b, e1, p.same ho hd hs, e2⟩
theorem mem_insertAt {es : Array (Int × Value)} {p : Nat} {x e : Int × Value} : e ∈ (insertAt es p x).toList ↔ e = x ∨ e ∈ es.toList := by
  rw [insertAt_list, List.mem_append, List.mem_cons]
  constructor
  · rintro (h | h | h)
    · exact .inr (List.mem_of_mem_take h)
    · exact .inl h
    · exact .inr (List.mem_of_mem_drop h)
  · rintro (h | h)
    · exact .inr (.inl h)
    · rw [← List.take_append_drop p es.toList] at h
      rcases List.mem_append.mp h with z | z
      · exact .inl z
      · exact .inr (.inr z)
theorem store_at {h : Heap} {a : Addr} {o : Obj} {es es' : Array (Int × Value)} {ep : Nat} {t t' : SetTable} (ho : h.get? a = some o) (hd : o.data = .set es ep t) : (h.update a (Obj.putSet es' t')).get? a = some { o with data := .set es' (ep + 1) t' } := by
  have := Heap.get?_update_self (Obj.putSet es' t') ho (by rw [putSet_of es' t' hd]; rfl)
  rw [putSet_of es' t' hd] at this; exact this
theorem add_spec {a b : Addr} {ks : List (List Int)} {k : List Int} {Q : Bool → Shared → Prop} (hu : A.units < cLine) (hS : SetP prog w N s.heap a ks) (hp : IsP prog w s.heap k b) (hN : N b) (hb : ks.length ≤ 250)
    (h : ∀ h' r, Heap.SameBut a s.heap h' → SetP prog w N h' a (if k ∈ ks then ks else ks ++ [k]) → Q r { s with heap := h' }) :
    wpAny (model prog w) A (setAddHashedIn a (.ref b) (hk prog w k) 100000) Q E s := by
  obtain ⟨o, es, ep, t, ho, hex, hd, ok, mk, fl, hes, hks, hsz, hnd⟩ := hS
  have room : es.size < t.mask + 1 := by omega
  have hfits := fits_of ok room
  obtain ⟨k0, hlt0, hk0, hl⟩ := first_empty ok room (bits (hk prog w k)) (bits_lt _)
  have m511 : t.mask ≤ 511 := by rcases mk with q | q | q | q <;> omega
  unfold setAddHashedIn
  refine wpAny_bind (wpAny_setState_of ho hd hfits ?_)
  dsimp only
  have hscan : byScan (.ref b) es = false := rfl
  rw [hscan]
  simp only [Bool.false_eq_true, if_false]
  unfold setSearch
  refine wpAny_bind (search_from hu ho hd ok room hes hp hk0 hlt0 hl (fun hfound => ?_) (fun hfree => ?_) 100000 0 none rfl (Nat.zero_le _) (by unfold turns at hlt0; omega) (fun k' hk' => absurd hk' (Nat.not_lt_zero _)))
  · -- it is there
    dsimp only
    refine wpAny_pure ?_
    have e : s = { s with heap := s.heap } := by cases s; rfl
    rw [e]
    refine h s.heap false (Heap.SameBut.refl a s.heap) ?_
    rw [if_pos ((hks k).mpr hfound)]
    exact ⟨o, es, ep, t, ho, hex, hd, ok, mk, fl, hes, hks, hsz, hnd⟩
  · -- it is new
    dsimp only
    have hkn : k ∉ ks := fun z => hfree ((hks k).mp z)
    refine wpAny_bind (wpAny_setState_of ho hd hfits ?_)
    dsimp only
    rw [put_eq ok.nod]
    dsimp only
    have hjlt := posLt t.mask (bits (hk prog w k)) k0
    have ins := insert_ok (x := .ref b) ok hk0 hjlt hl
    have b1' : below t.place (pos t.mask (bits (hk prog w k)) k0) ≤ es.size := by rw [← ok.size]; exact (below_spec ok.rise _).1
    have isz : (insertAt es (below t.place (pos t.mask (bits (hk prog w k)) k0)) (hk prog w k, Value.ref b)).size = es.size + 1 := insertAt_size _ _ _ b1'
    generalize hes' : insertAt es (below t.place (pos t.mask (bits (hk prog w k)) k0)) (hk prog w k, Value.ref b) = es' at *
    have mem' : ∀ e, e ∈ es'.toList ↔ e = (hk prog w k, Value.ref b) ∨ e ∈ es.toList := fun e => by rw [← hes']; exact mem_insertAt
    -- whatever hashByValue says
    have fin : ∀ t2 : SetTable, SetOk t2 es' → t2.mask = t.mask → t2.fill = es'.size → wpAny (model prog w) A (do
          storeSet a es' t2
          if (!false && t2.tooFull) = true then do setRelay a (SetTable.grown (es.size + 1)); pure true else pure true) Q E s := by
      intro t2 ok2 em ef
      have s1 := Heap.SameBut.update s.heap a (Obj.putSet es' t2)
      have ho1 := store_at (es' := es') (t' := t2) ho hd
      have hes1 : ∀ e ∈ es'.toList, ∃ k', EntK prog w N (s.heap.update a (Obj.putSet es' t2)) e k' := fun e he => by
        rcases (mem' e).mp he with q | q
        · exact ⟨k, b, ⟨by rw [q], hN⟩, hp.same ho hd s1, by rw [q]⟩
        · obtain ⟨k', x⟩ := hes e q
          exact ⟨k', x.same ho hd s1⟩
      have hks1 : ∀ k', k' ∈ ks ++ [k] ↔ ∃ e ∈ es'.toList, EntK prog w N (s.heap.update a (Obj.putSet es' t2)) e k' := fun k' => by
        rw [List.mem_append, List.mem_singleton, hks k']
        constructor
        · rintro (⟨e, he, x⟩ | rfl)
          · exact ⟨e, (mem' e).mpr (.inr he), x.same ho hd s1⟩
          · exact ⟨(hk prog w k', Value.ref b), (mem' _).mpr (.inl rfl), b, ⟨rfl, hN⟩, hp.same ho hd s1, rfl⟩
        · rintro ⟨e, he, x⟩
          rcases (mem' e).mp he with q | q
          · refine .inr ?_
            subst q
            exact x.inj ⟨b, ⟨rfl, hN⟩, hp.same ho hd s1, rfl⟩
          · obtain ⟨k2, y⟩ := hes e q
            have := x.inj (y.same ho hd s1)
            subst this
            exact .inl ⟨e, q, y⟩
      have hnd1 : (ks ++ [k]).Nodup := by
        rw [List.nodup_append]
        exact ⟨hnd, by simp, fun x hx y hy => by rw [List.mem_singleton.mp hy]; exact fun z => hkn (z ▸ hx)⟩
      have hsz1 : es'.size = (ks ++ [k]).length := by rw [isz, List.length_append, hsz]; rfl
      refine wpAny_bind (wpAny_storeSet_of ho hd ?_ (by rw [sizeLine_eq]; omega))
      by_cases tf : t2.tooFull = true
      · rw [tf]
        simp only [Bool.not_false, Bool.and_self, if_true]
        have big : es'.size * 5 ≥ t.mask * 3 := by
          unfold SetTable.tooFull at tf
          rw [ef, em] at tf
          exact of_decide_eq_true tf
        have cs : (t.mask = 7 ∧ es.size + 1 = 5) ∨ (t.mask = 31 ∧ es.size + 1 = 19) ∨ (t.mask = 127 ∧ es.size + 1 = 77) := by
          rcases mk with q | q | q | q <;> omega
        have good : Mk (sizeAbove (grown (es.size + 1)) - 1) ∧ es'.size * 5 < (sizeAbove (grown (es.size + 1)) - 1) * 3 ∧ sizeAbove (grown (es.size + 1)) ≤ 1000 := by
          rcases cs with ⟨_, q⟩ | ⟨_, q⟩ | ⟨_, q⟩ <;> rw [isz, q]
          · exact ⟨.inr (.inl (by decide)), by decide, by decide⟩
          · exact ⟨.inr (.inr (.inl (by decide))), by decide, by decide⟩
          · exact ⟨.inr (.inr (.inr (by decide))), by decide, by decide⟩
        obtain ⟨t3, order, r1, r2, r3, r4, _, _, r7⟩ := relaid_ok (t := t2) (es := es') (wanted := grown (es.size + 1)) good.1.full.1 good.1.full.2 (by omega)
        refine wpAny_bind ?_
        unfold setRelay
        refine wpAny_bind (wpAny_setState_of (s := { s with heap := s.heap.update a (Obj.putSet es' t2) }) ho1 rfl (fits_of ok2 (by rw [em]; omega)) ?_)
        dsimp only
        rw [if_neg (by rw [sizeLine_eq]; omega)]
        rw [r1]
        refine wpAny_bind (wpAny_of_eq (a := (order.filterMap (es'[·]?), t3)) ?_ ?_)
        · have r2b : ((order.filterMap (es'[·]?)).size != es'.size) = false := by rw [r2]; simp
          first
            | (show (if ((order.filterMap (es'[·]?)).size != es'.size) = true then unsupported "internal:set-table-lost-an-element" else pure (order.filterMap (es'[·]?), t3)) = _; rw [r2b]; rfl)
            | (show (if ((order.filterMap (es'[·]?)).size != es'.size) = true then (do let _ ← (unsupported "internal:set-table-lost-an-element" : Sem PUnit); pure (order.filterMap (es'[·]?), t3)) else pure (order.filterMap (es'[·]?), t3)) = _; rw [r2b]; rfl)
            | (show (if ((order.filterMap (es'[·]?)).size != es'.size) = true then (do let _ ← (unsupported "internal:set-table-lost-an-element" : Sem PUnit); pure (order.filterMap (es'[·]?), t3)) else (do let _ ← (pure PUnit.unit : Sem PUnit); pure (order.filterMap (es'[·]?), t3))) = _; rw [r2b]; rfl)
        dsimp only
        refine wpAny_storeSet_of (s := { s with heap := s.heap.update a (Obj.putSet es' t2) }) ho1 rfl ?_ (by rw [r2, sizeLine_eq]; omega)
        refine wpAny_pure (h _ true (s1.trans (Heap.SameBut.update _ a _)) ?_)
        rw [if_neg hkn]
        have s2 := Heap.SameBut.update (s.heap.update a (Obj.putSet es' t2)) a (Obj.putSet (order.filterMap (es'[·]?)) t3)
        have ho2 := store_at (es' := order.filterMap (es'[·]?)) (t' := t3) ho1 rfl
        refine ⟨_, _, _, t3, ho2, hex, rfl, r3, by rw [r4]; exact good.1, by rw [r2, r4]; exact good.2.1, fun e he => ?_, fun k' => ?_, by rw [r2]; exact hsz1, hnd1⟩
        · obtain ⟨k', x⟩ := hes1 e ((r7 e).mp he)
          exact ⟨k', x.same ho1 rfl s2⟩
        · rw [hks1 k']
          constructor
          · rintro ⟨e, he, x⟩
            exact ⟨e, (r7 e).mpr he, x.same ho1 rfl s2⟩
          · rintro ⟨e, he, x⟩
            obtain ⟨k2, y⟩ := hes1 e ((r7 e).mp he)
            have := x.inj (y.same ho1 rfl s2)
            subst this
            exact ⟨e, (r7 e).mp he, y⟩
      · rw [Bool.not_eq_true] at tf
        rw [tf]
        simp only [Bool.and_false, Bool.false_eq_true, if_false]
        have small : es'.size * 5 < t.mask * 3 := by
          unfold SetTable.tooFull at tf
          rw [ef, em] at tf
          have := of_decide_eq_false tf
          omega
        refine wpAny_pure (h _ true s1 ?_)
        rw [if_neg hkn]
        exact ⟨_, es', _, t2, ho1, hex, rfl, ok2, by rw [em]; exact mk, by rw [em]; exact small, hes1, hks1, hsz1, hnd1⟩
    have fill1 : ({ t with place := insertAt t.place (below t.place (pos t.mask (bits (hk prog w k)) k0)) (pos t.mask (bits (hk prog w k)) k0) } : SetTable).fill = es'.size := by
      unfold SetTable.fill
      rw [ins.size, ins.nod]
      simp
    have okOff : SetOk ({ t with place := insertAt t.place (below t.place (pos t.mask (bits (hk prog w k)) k0)) (pos t.mask (bits (hk prog w k)) k0), plain := false } : SetTable) es' := ⟨ins.full, ins.odd, ins.nod, ins.rise, ins.le, ins.size, ins.path⟩
    have both : ∀ r : Bool, wpAny (model prog w) A (do
          storeSet a es' (if r = true then ({ t with place := insertAt t.place (below t.place (pos t.mask (bits (hk prog w k)) k0)) (pos t.mask (bits (hk prog w k)) k0) } : SetTable) else ({ t with place := insertAt t.place (below t.place (pos t.mask (bits (hk prog w k)) k0)) (pos t.mask (bits (hk prog w k)) k0), plain := false } : SetTable))
          if (!false && (if r = true then ({ t with place := insertAt t.place (below t.place (pos t.mask (bits (hk prog w k)) k0)) (pos t.mask (bits (hk prog w k)) k0) } : SetTable) else ({ t with place := insertAt t.place (below t.place (pos t.mask (bits (hk prog w k)) k0)) (pos t.mask (bits (hk prog w k)) k0), plain := false } : SetTable)).tooFull) = true then do setRelay a (SetTable.grown (es.size + 1)); pure true else pure true) Q E s := fun r => by
      cases r with
      | true => exact fin ({ t with place := insertAt t.place (below t.place (pos t.mask (bits (hk prog w k)) k0)) (pos t.mask (bits (hk prog w k)) k0) } : SetTable) ins rfl fill1
      | false => exact fin ({ t with place := insertAt t.place (below t.place (pos t.mask (bits (hk prog w k)) k0)) (pos t.mask (bits (hk prog w k)) k0), plain := false } : SetTable) okOff rfl fill1
    split
    · exact wpAny_bind (hashByValue_tuple hp fun r => both r)
    · exact wpAny_bind (wpAny_pure (both true))
end SetT

set_option Elab.async false
set_option linter.all false
set_option maxRecDepth 100000
set_option maxHeartbeats 4000000
namespace SetT
open PySem PySem.SetTable PySem.Spec PyProof.Rows
/-- each once, in the order in which they come -/
def stepK (σ : List (List Int)) (k : List Int) : List (List Int) := if k ∈ σ then σ else σ ++ [k]
def kd (key : Nat → List Int) (i : Nat) : List (List Int) := ((List.range i).map key).foldl stepK []
theorem kd_succ (key : Nat → List Int) (i : Nat) : kd key (i + 1) = stepK (kd key i) (key i) := by
  unfold kd; rw [List.range_succ, List.map_append, List.foldl_append]; rfl
theorem kd_len (key : Nat → List Int) : ∀ i, (kd key i).length ≤ i
  | 0 => Nat.le_refl _
  | i + 1 => by
    rw [kd_succ]; unfold stepK
    have ih := kd_len key i
    split
    · omega
    · rw [List.length_append, List.length_singleton]; omega
theorem fresh_ok {prog : Program} {w : World} {N : Addr → Prop} {h : Heap} {a : Addr} {led : Bool} {key : Nat → List Int} (hget : h.get? a = some { cls := .type "set", dict := none, data := .set #[] 0 (.fresh 0 0 led) }) : SetP prog w N h a (kd key 0) := by
  refine ⟨_, #[], 0, .fresh 0 0 led, hget, ⟨rfl, rfl, rfl⟩, rfl, ⟨full7, (by show 7 % 2 = 1; decide), rfl, fun i j _ h => absurd h (Nat.not_lt_zero _), fun i v h => ?_, rfl, fun i v e h => ?_⟩, .inl rfl, (by show 0 * 5 < 7 * 3; decide), fun e he => ?_, fun k => ⟨fun hk => (nomatch hk), fun h => ?_⟩, rfl, List.nodup_nil⟩
  · exact absurd (show (#[] : Array Nat)[i]? = some v from h) (by simp)
  · exact absurd (show (#[] : Array Nat)[i]? = some v from h) (by simp)
  · simp at he
  · obtain ⟨e, he, _⟩ := h
    simp at he
section
variable {prog : Program} {w : World} {A : Around} {R : Result → Shared → Prop} {I : Addr} {fp wr : List Addr} {G : Array GenState → Array GenState → Prop} {n : Nat} {P : Nat → Value → Prop} {St : Nat → Shared → Prop}
theorem update_loop (W : WalksS prog w A.in1 I fp wr G n P St) (S : Addr) (hSf : S ∉ fp) (key : Nat → List Int) (hu : A.in1.units < cLine) (hb : n ≤ 250) :
    ∀ (k i : Nat) (s : Shared), n - i = k → i ≤ n → St i s → (∀ (j : Nat) v, P j v → ∃ b, v = .ref b ∧ IsP prog w s.heap (key j) b ∧ b ∉ S :: wr) →
      SetP prog w (fun b => b ∉ S :: wr) s.heap S (kd key i) →
      (∀ s', Moved (S :: wr) G s s' → SetP prog w (fun b => b ∉ S :: wr) s'.heap S (kd key n) → R (.ok (.ret .none)) s') →
      codeAny (model prog w) A (.builtin "set.update.loop" ⟨[.ref S, .ref I], []⟩) R s := by
  have hSw : S ∉ wr := fun h => hSf (W.sub _ h)
  have hsub : ∀ b ∈ wr, b ∈ S :: wr := fun b hb => List.mem_cons_of_mem _ hb
  have keepS : ∀ {s s' : Shared} {ks : List (List Int)}, (∀ b o, b ∉ wr → s.heap.get? b = some o → s'.heap.get? b = some o) → SetP prog w (fun b => b ∉ S :: wr) s.heap S ks → SetP prog w (fun b => b ∉ S :: wr) s'.heap S ks := by
    intro s s' ks hk hS
    obtain ⟨o, es, ep, t, ho, hex, hd, ok, mk, fl, hes, hks, hsz, hnd⟩ := hS
    have lift : ∀ e k, EntK prog w (fun b => b ∉ S :: wr) s.heap e k → EntK prog w (fun b => b ∉ S :: wr) s'.heap e k := fun e k x => by
      obtain ⟨b, ⟨e2, hn⟩, ⟨ob, items, m, h1, h2⟩, e3⟩ := x
      exact ⟨b, ⟨e2, hn⟩, ⟨ob, items, m, hk b ob (fun z => hn (hsub b z)) h1, h2⟩, e3⟩
    refine ⟨o, es, ep, t, hk S o hSw ho, hex, hd, ok, mk, fl, fun e he => ?_, fun k => ?_, hsz, hnd⟩
    · obtain ⟨k, x⟩ := hes e he
      exact ⟨k, lift e k x⟩
    · rw [hks k]
      constructor
      · rintro ⟨e, he, x⟩
        exact ⟨e, he, lift e k x⟩
      · rintro ⟨e, he, x⟩
        obtain ⟨k2, y⟩ := hes e he
        have := x.inj (lift e k2 y)
        subst this
        exact ⟨e, he, y⟩
  intro k
  induction k with
  | zero =>
    intro i s hk hi hst hv hS hR
    have hin : i = n := by omega
    subst hin
    refine codeAny_builtin F.entry_set_update_loop ?_
    rw [Around.under_plainId F.plain_set_update_loop _]
    show wpAny _ A.in1 (pyNext (.ref I) >>= _) _ _ s
    refine wpAny_bind (W.done s _ _ hst fun s' hm => ?_)
    show wpAny _ A.in1 (ret Value.none) _ _ s'
    exact wpAny_pure (hR s' (hm.mono hsub) (keepS hm.heap hS))
  | succ k ih =>
    intro i s hk hi hst hv hS hR
    have hlt : i < n := by omega
    refine codeAny_builtin F.entry_set_update_loop ?_
    rw [Around.under_plainId F.plain_set_update_loop _]
    show wpAny _ A.in1 (pyNext (.ref I) >>= _) _ _ s
    refine wpAny_bind (W.item i s _ _ hlt hst fun v s' hP hst' hm => ?_)
    obtain ⟨b, rfl, hp, hbn⟩ := hv i v hP
    have hbw : b ∉ wr := fun z => hbn (hsub b z)
    have hS' := keepS hm.heap hS
    have hp' : IsP prog w s'.heap (key i) b := let ⟨ob, items, m, h1, h2⟩ := hp; ⟨ob, items, m, hm.heap b ob hbw h1, h2⟩
    show wpAny _ A.in1 (holding [Value.ref b] (setAdd S (.ref b)) >>= _) _ _ s'
    refine wpAny_bind (wpAny_holding ?_)
    unfold setAdd
    refine wpAny_holding ?_
    refine wpAny_bind ((tupleKind (intKind prog w)).pyHash (k := key i) hu hp' ?_)
    unfold setAddHashed
    refine wpAny_holding ?_
    have hlen := kd_len key i
    refine add_spec (N := fun b => b ∉ S :: wr) (s := { s' with toks := s'.toks + (tupleKind (intKind prog w)).draws (key i) }) hu hS' hp' hbn (by omega) fun h' r hsb hS2 => ?_
    have hSi : SetP prog w (fun b => b ∉ S :: wr) h' S (kd key (i + 1)) := by
      rw [kd_succ]
      exact hS2
    refine wpAny_pure ⟨plainId_quiet F.plain_set_update_loop _, ih (i + 1) _ (by omega) hlt (W.frame _ s' _ _ hst' (Nat.le_add_right _ _) fun b hb o e => ?_) (fun j v hj => ?_) hSi fun s'' hm'' hS'' => ?_⟩
    · rw [hsb.2 b (fun h : b = S => hSf (by rw [← h]; exact hb))]; exact e
    · obtain ⟨b2, e2, ⟨ob, items, m, h1, h2⟩, hn2⟩ := hv j v hj
      refine ⟨b2, e2, ⟨ob, items, m, ?_, h2⟩, hn2⟩
      exact (hsb.2 b2 (fun h : b2 = S => hn2 (by rw [h]; exact List.mem_cons_self))).trans (hm.heap b2 ob (fun z => hn2 (hsub b2 z)) h1)
    · refine hR s'' (Moved.trans W.gtrans ((hm.mono hsub).then_heap (Nat.le_add_right _ _) fun b o hb e => ?_) hm'') hS''
      rw [hsb.2 b (fun h : b = S => hb (by rw [h]; exact List.mem_cons_self))]; exact e
end
variable {prog : Program} {w : World} {A : Around} {E : Value → Shared → Prop} {s : Shared}
/-- a set of n things -/
def SetN (h : Heap) (a : Addr) (n : Nat) : Prop := ∃ o es ep t, h.get? a = some o ∧ o.ExactSet ∧ o.data = .set es ep t ∧ t.fits es.size = true ∧ es.size = n
theorem SetP.num {N : Addr → Prop} {h : Heap} {a : Addr} {ks : List (List Int)} (x : SetP prog w N h a ks) : SetN h a ks.length := by
  obtain ⟨o, es, ep, t, ho, hex, hd, ok, mk, fl, _, _, hsz, _⟩ := x
  exact ⟨o, es, ep, t, ho, hex, hd, fits_of ok (by omega), hsz⟩
theorem call_set_tuples {l : Addr} {items : Array Value} {key : Nat → List Int} {Q : Value → Shared → Prop}
    (hh : A.handled = none) (hu : A.units + 8 < cLine) (hl : s.heap.IsList l items) (hi : ∀ (i : Nat) (v : Value), items[i]? = some v → ∃ b, v = .ref b ∧ IsP prog w s.heap (key i) b) (hb : items.size ≤ 250)
    (h : ∀ (h' : Heap) (tk : Nat), SetN h' s.heap.objs.size (kd key items.size).length →
      (∀ b o, b < s.heap.objs.size → s.heap.get? b = some o → h'.get? b = some o) → Q (.ref s.heap.objs.size) { s with heap := h', toks := tk }) :
    wpAny (model prog w) A (call (.type "set") [.ref l]) Q E s := by
  obtain ⟨c, tl, hmro⟩ := F.called_set.mro
  have hmade := F.called_set.made
  have hsub := F.called_set.sub
  refine wpAny_call (codeAny_of_tree ?_)
  show wpAny _ _ (callAny (.type "set") _) _ _ _
  refine wpAny_pure ⟨Code.quiet_builtin _ (by decide +kernel), codeAny_builtin F.entry_type_call ?_⟩
  rw [Around.under_plain (weight_type_call_type "set" [.ref l] []) rfl]
  have h1 := F.called_set.notType
  have h2 := F.called_set.canCreate
  have hct := F.typeCall_set_1 (.ref l)
  repeat (any_goals (first | assumption | wp_step))

  refine codeAny_mono (code_set_new_1 (.ref l) (E := E) (Q₁ := fun obj s₁ => ∃ led : Bool, obj = .ref s.heap.objs.size ∧ s₁ = { s with heap := s.heap.push { cls := .type "set", dict := none, data := .set #[] 0 (.fresh 0 0 led) } }) fun led => ⟨led, rfl, rfl⟩) fun r s₁ hr => ?_
  cases r with
  | error e => exact hr
  | ok fl =>
    cases fl with
    | ret obj =>
      obtain ⟨led, rfl, rfl⟩ := hr
      have hS : (s.heap.push { cls := .type "set", dict := none, data := .set #[] 0 (.fresh 0 0 led) }).get? s.heap.objs.size = some { cls := .type "set", dict := none, data := .set #[] 0 (.fresh 0 0 led) } := Heap.get?_push_size _ rfl
      have hT : Shared.TypeIs { s with heap := s.heap.push { cls := .type "set", dict := none, data := .set #[] 0 (.fresh 0 0 led) } } (.ref s.heap.objs.size) "set" := ⟨_, hS, rfl⟩
      have hli := F.called_set.init.lookup
      have hbi := F.called_set.init.bind (.ref s.heap.objs.size)
      repeat (any_goals (first | assumption | wp_step))

      refine codeAny_mono (codeAny_call_builtin (R := wants (fun r s₂ => r = .none ∧ ∃ h' tk, s₂ = { s with heap := h', toks := tk } ∧
          SetN h' s.heap.objs.size (kd key items.size).length ∧
          (∀ b o, b < s.heap.objs.size → s.heap.get? b = some o → h'.get? b = some o)) E) F.called_set.init.plain F.entry_set_init (check_set_init_1 hT ?_)) fun r₂ s₂ hr₂ => ?_
      · obtain ⟨ol, hol, hcl, nl, hdl⟩ := hl
        obtain ⟨ocls, odict, odata, oslots⟩ := ol
        simp only at hcl hdl
        subst hcl; subst hdl
        have hol' : (s.heap.push { cls := .type "set", dict := none, data := .set #[] 0 (.fresh 0 0 led) }).get? l = some { cls := .type "list", dict := odict, data := .seq items nl, slots := oslots } := Heap.get?_push_of_some _ hol
        have hsls := F.sub_list_set
        have hslf := F.sub_list_frozenset
        have hne : (Value.type "list" == Value.type "dict") = false := by decide
        have hl1 : (s.heap.push { cls := .type "set", dict := none, data := .set #[] 0 (.fresh 0 0 led) }).IsList l items := ⟨_, hol', rfl, nl, rfl⟩
        unfold Builtin.«set.__init__» noKeywords Builtin.Frozenset.updateFrom
        generalize hPI : pyIter = PI
        wp_walk
        subst hPI

        refine wpAny_pyIter_list hl1 ?_
        refine wpAny_bind (wpAny_runValue ?_)
        have hlS : l < s.heap.objs.size := Heap.lt_size hol
        have hh3 : A.in1.in1.in1.handled = none := by simp [hh]
        have hu' : A.in1.in1.in1.units < cLine := by show A.units + 1 + 1 + 1 < cLine; omega
        have hneI : l ≠ (s.heap.push { cls := .type "set", dict := none, data := .set #[] 0 (.fresh 0 0 led) }).objs.size := by
          rw [Heap.size_push]; exact Nat.ne_of_lt (Nat.lt_succ_of_lt hlS)
        have hSf : s.heap.objs.size ∉ [(s.heap.push { cls := .type "set", dict := none, data := .set #[] 0 (.fresh 0 0 led) }).objs.size, l] := by
          rw [Heap.size_push]; simp only [List.mem_cons, List.mem_singleton, List.not_mem_nil, or_false, not_or]
          exact ⟨Nat.ne_of_lt (Nat.lt_succ_self _), Nat.ne_of_gt hlS⟩
        refine update_loop ((Walks.list hh3 _ l hneI items).toS) s.heap.objs.size
          hSf key hu' hb (items.size - 0) 0 _ (by omega) (Nat.zero_le _)
          ⟨⟨_, Heap.get?_push_size _ rfl, rfl, rfl⟩, (hl1.push _)⟩ (fun i v hv => ?hval) ?hS0 ?hR
        case hval =>
          obtain ⟨b, e, hp⟩ := hi i v hv
          obtain ⟨ob, items', n', ho', r⟩ := hp
          have hbs : b < s.heap.objs.size := Heap.lt_size ho'
          refine ⟨b, e, ⟨ob, items', n', Heap.get?_push_of_some _ (Heap.get?_push_of_some _ ho'), r⟩, ?_⟩
          rw [Heap.size_push]
          simp only [List.mem_cons, List.mem_singleton, List.not_mem_nil, or_false, not_or]
          exact ⟨Nat.ne_of_lt hbs, Nat.ne_of_lt (Nat.lt_succ_of_lt hbs)⟩
        case hS0 =>
          have hget : ((s.heap.push { cls := .type "set", dict := none, data := .set #[] 0 (.fresh 0 0 led) }).push { cls := .type "list_iterator", data := .fields #[.ref l, .int 0 0] }).get? s.heap.objs.size
              = some { cls := .type "set", dict := none, data := .set #[] 0 (.fresh 0 0 led) } := Heap.get?_push_of_some _ hS
          exact fresh_ok hget
        case hR =>
          intro s' hm hS'
          obtain ⟨h', g', d', tk', os'⟩ := s'
          have eg : g' = s.gens := hm.gens
          have ed : d' = s.drawn := hm.drawn
          have eo : os' = s.os := hm.os
          subst eg; subst ed; subst eo
          show wpAny _ _ _ _ _ _
          refine wpAny_pure ?_
          show wpAny _ _ (ret Value.none) _ _ _
          refine wpAny_pure ⟨rfl, h', tk', rfl, hS'.num, fun b o hb e => ?_⟩
          have hb1 : b ≠ s.heap.objs.size := Nat.ne_of_lt hb
          have hb2 : b ≠ (s.heap.push { cls := .type "set", dict := none, data := .set #[] 0 (.fresh 0 0 led) }).objs.size := by
            rw [Heap.size_push]; exact Nat.ne_of_lt (Nat.lt_succ_of_lt hb)
          exact hm.heap b o (by simp only [List.mem_cons, List.mem_singleton, List.not_mem_nil, or_false, not_or]; exact ⟨hb1, hb2⟩) (Heap.get?_push_of_some _ (Heap.get?_push_of_some _ e))

      · cases r₂ with
        | error e => exact hr₂
        | ok fl₂ =>
          cases fl₂ with
          | ret r =>
            obtain ⟨rfl, h', tk, rfl, hS', hk'⟩ := hr₂
            repeat (any_goals (first | assumption | wp_step))
            exact h _ _ hS' hk'
          | _ => exact hr₂.elim
    | _ => exact hr.elim
end SetT

set_option Elab.async false
set_option linter.all false
set_option maxRecDepth 100000
set_option maxHeartbeats 4000000
namespace L2
open PySem PySem.Spec PyProof.Rows
/-! ### set(a list of tuples of ints), its size -/
def setHO (q : Addr) (n : Nat) : HO := .ext fun h => SetT.SetN h q n
theorem setN_at {h1 h2 : Heap} {q : Addr} {n : Nat} (x : SetT.SetN h1 q n) (k : ∀ o, h1.get? q = some o → h2.get? q = some o) : SetT.SetN h2 q n :=
  let ⟨o, es, ep, t, ho, r⟩ := x; ⟨o, es, ep, t, k o ho, r⟩
theorem items_of {P : Program} {w : World} {ks : List Int} : ∀ {us : List Value}, Vals (ks.map V.int) us → ItemsAre (intKind P w) ks us := by
  induction ks with
  | nil => intro us r; cases r; exact .nil
  | cons k ks ih =>
    intro us r
    cases r with
    | cons h t =>
      obtain ⟨tk, rfl⟩ := h
      exact .cons (intKind_is _ _ _ _) (ih t)
theorem kd_eq (keys : List (List Int)) : SetT.kd (fun i => keys.getD i []) keys.length = keys.foldl SetT.stepK [] := by
  unfold SetT.kd
  congr 1
  refine List.ext_getElem? fun i => ?_
  rw [List.getElem?_map]
  by_cases hi : i < keys.length
  · rw [List.getElem?_range hi, List.getElem?_eq_getElem hi]
    show some (keys.getD i []) = _
    rw [List.getD_eq_getElem?_getD, List.getElem?_eq_getElem hi]
    rfl
  · rw [List.getElem?_eq_none (by rw [List.length_range]; omega), List.getElem?_eq_none (by omega)]
    rfl
section
variable {X : Cx}
def rSetT (K : PySem.W.Frag) : List V → Hp → VK → Prop := fun xs H Q => ∃ p ys, ∃ keys : List (List Int), xs = [.ref p] ∧ SqL K H p ys ∧ ys.length = keys.length ∧ ys.length ≤ 250 ∧
  (∀ (i : Nat) y k, ys[i]? = some y → keys[i]? = some k → ∃ b, y = .ref b ∧ H b = some (.tup (k.map V.int))) ∧ ∀ q H', Same H H' → H' q = some (setHO q (keys.foldl SetT.stepK []).length) → Q (.ref q) H'
theorem call_setT {k : Nat} (hr : Room k X.A) : CallR X (.type "set") (rSetT X.K) := by
  intro pins s σ H xs us Q I r h
  obtain ⟨p, ys, keys, rfl, hp, hlen, h250, hk, q⟩ := h
  obtain ⟨u, rfl, rx⟩ := vals1 r
  cases (show u = Value.ref p from rx)
  obtain ⟨vs, rv, pl, hz⟩ := I.list hp
  have hvl := rv.length
  refine SetT.call_set_tuples (key := fun i => keys.getD i []) hr.hd (by have := hr.un; omega) pl.isList (fun i v hv => ?_) (by rw [List.size_toArray]; omega) fun h' tk hN kp => ?_
  · have hv' : vs[i]? = some v := by simpa using hv
    have hi : i < vs.length := (List.getElem?_eq_some_iff.mp hv').1
    have hy : ys[i]? = some ys[i] := List.getElem?_eq_getElem (by omega)
    have hke : keys[i]? = some keys[i] := List.getElem?_eq_getElem (by omega)
    obtain ⟨b, eb, hb⟩ := hk i _ _ hy hke
    obtain ⟨u2, e2, r2⟩ := rv.get hy
    rw [hv'] at e2
    cases e2
    rw [eb] at r2
    obtain ⟨_, its, ri, o, ho, hc, n, hd⟩ := I.hok b _ hb
    refine ⟨b, r2, o, its.toArray, n, ho, hc, hd, ?_⟩
    rw [List.getD_eq_getElem?_getD, hke]
    exact items_of ri
  · have e : (SetT.kd (fun i => keys.getD i []) vs.toArray.size).length = (keys.foldl SetT.stepK []).length := by
      rw [List.size_toArray, show vs.length = keys.length by omega, kd_eq]
    rw [e] at hN
    have kp' : ∀ b o, s.heap.get? b = some o → h'.get? b = some o := fun b o e => kp b o (Heap.lt_size e) e
    refine ⟨.ref s.heap.objs.size, _, I.laid (t' := tk) (o := setHO s.heap.objs.size (keys.foldl SetT.stepK []).length) kp' (Nat.le_refl _) ?_, rfl, q _ _ (same_add (I.hok.fresh (Nat.le_refl _))) upd_same⟩
    exact ⟨hN, let ⟨o, _, _, _, ho, _⟩ := hN; ⟨o, ho⟩, fun h1 h2 x k => setN_at x k⟩
def rLenS : List V → Hp → VK → Prop := fun xs H Q => ∃ q n, xs = [.ref q] ∧ H q = some (setHO q n) ∧ n ≤ 100000 ∧ Q (.int n) H
theorem call_lenS : CallR X (.builtin "len") rLenS := by
  intro pins s σ H xs us Q I r h
  obtain ⟨p, n, rfl, hp, hn, q⟩ := h
  obtain ⟨u, rfl, rx⟩ := vals1 r
  cases (show u = Value.ref p from rx)
  obtain ⟨o, es, ep, t, ho, hex, hd, hf, he⟩ : SetT.SetN s.heap p n := (I.hok p _ hp).1
  refine call_len_set ho hex hd hf (by omega) ⟨.int n, H, I.tok _, ⟨_, by rw [he]⟩, q⟩

/-! ### t == u, t != u, tuples of ints -/
def rEqT (K : PySem.W.Frag) : R2 := fun x y H Q => ∃ (a b : Addr) (ns ms : List Int), x = .ref a ∧ y = .ref b ∧ SqT K H a (ns.map V.int) ∧ SqT K H b (ms.map V.int) ∧ Q (.bl (decide (ns = ms))) H
theorem tupleKey_of {pins : List (Addr × Obj)} {σ : St} {H : Hp} {s : Shared} {a : Addr} {ns : List Int} (I : Inv X pins σ H s) (h : SqT X.K H a (ns.map V.int)) : IsTupleKey (intKind X.prog X.w) s.heap ns a := by
  obtain ⟨its, rv, p, _⟩ := I.tuple h
  obtain ⟨o, ho, hc, n, hd⟩ := p
  exact ⟨o, its.toArray, n, ho, hc, hd, items_of rv⟩
theorem op_eqT {k : Nat} (hr : Room k X.A) : OpR X (compareOp .Eq) (rEqT X.K) := by
  intro pins s σ H x y v u Q I rx ry h
  obtain ⟨a, b, ns, ms, rfl, rfl, ha, hb, q⟩ := h
  cases (show v = Value.ref a from rx)
  cases (show u = Value.ref b from ry)
  have hx := tupleKey_of I ha
  have hy := tupleKey_of I hb
  show wpAny _ _ (richCompare .Eq (.ref a) (.ref b)) _ _ s
  exact wpAny_richCompare_same_room (op := .Eq) hx.typeIs hy.typeIs F.slot_tuple_eq
    (wpAny_call_entry F.slot_tuple_eq hx.typeIs F.entry_tuple_eq (tuple_eq_tree hx hy ⟨_, rfl, (fun e => nomatch e), ⟨.bl _, H, I, rfl, q⟩⟩) (F.args_tuple_eq_2 _ _)) (by have := hr.un; omega)
end
end L2

set_option Elab.async false
set_option linter.all false
set_option maxRecDepth 100000
set_option maxHeartbeats 4000000
namespace SetI
open PySem PySem.Spec PyProof.Rows
section
variable {prog : Program} {w : World} {A : Around} {E : Value → Shared → Prop} {s : Shared}
theorem call_set_tupI {l : Addr} {items : Array Value} {ns : List Int} {Q : Value → Shared → Prop}
    (hh : A.handled = none) (hl : s.heap.IsTuple l items) (hi : PyProof.Rows.IntsAre items.toList ns) (hb : items.size + 1 < scanBound)
    (h : ∀ (h' : Heap) (tk : Nat), h'.SetOf (intKind prog w) s.heap.objs.size (fun k' => (PyProof.Rows.firstMet (fun i => ns.getD i 0) items.size).any (· == k')) (PyProof.Rows.firstMet (fun i => ns.getD i 0) items.size).length →
      (∀ b o, b < s.heap.objs.size → s.heap.get? b = some o → h'.get? b = some o) → Q (.ref s.heap.objs.size) { s with heap := h', toks := tk }) :
    wpAny (model prog w) A (call (.type "set") [.ref l]) Q E s := by
  obtain ⟨c, tl, hmro⟩ := F.called_set.mro
  have hmade := F.called_set.made
  have hsub := F.called_set.sub
  refine wpAny_call (codeAny_of_tree ?_)
  show wpAny _ _ (callAny (.type "set") _) _ _ _
  refine wpAny_pure ⟨Code.quiet_builtin _ (by decide +kernel), codeAny_builtin F.entry_type_call ?_⟩
  rw [Around.under_plain (weight_type_call_type "set" [.ref l] []) rfl]
  have h1 := F.called_set.notType
  have h2 := F.called_set.canCreate
  have hct := F.typeCall_set_1 (.ref l)
  repeat (any_goals (first | assumption | wp_step))

  refine codeAny_mono (code_set_new_1 (.ref l) (E := E) (Q₁ := fun obj s₁ => ∃ led : Bool, obj = .ref s.heap.objs.size ∧ s₁ = { s with heap := s.heap.push { cls := .type "set", dict := none, data := .set #[] 0 (.fresh 0 0 led) } }) fun led => ⟨led, rfl, rfl⟩) fun r s₁ hr => ?_
  cases r with
  | error e => exact hr
  | ok fl =>
    cases fl with
    | ret obj =>
      obtain ⟨led, rfl, rfl⟩ := hr
      have hS : (s.heap.push { cls := .type "set", dict := none, data := .set #[] 0 (.fresh 0 0 led) }).get? s.heap.objs.size = some { cls := .type "set", dict := none, data := .set #[] 0 (.fresh 0 0 led) } := Heap.get?_push_size _ rfl
      have hT : Shared.TypeIs { s with heap := s.heap.push { cls := .type "set", dict := none, data := .set #[] 0 (.fresh 0 0 led) } } (.ref s.heap.objs.size) "set" := ⟨_, hS, rfl⟩
      have hli := F.called_set.init.lookup
      have hbi := F.called_set.init.bind (.ref s.heap.objs.size)
      repeat (any_goals (first | assumption | wp_step))

      refine codeAny_mono (codeAny_call_builtin (R := wants (fun r s₂ => r = .none ∧ ∃ h' tk, s₂ = { s with heap := h', toks := tk } ∧
          h'.SetOf (intKind prog w) s.heap.objs.size (fun k' => (PyProof.Rows.firstMet (fun i => ns.getD i 0) items.size).any (· == k')) (PyProof.Rows.firstMet (fun i => ns.getD i 0) items.size).length ∧
          (∀ b o, b < s.heap.objs.size → s.heap.get? b = some o → h'.get? b = some o)) E) F.called_set.init.plain F.entry_set_init (check_set_init_1 hT ?_)) fun r₂ s₂ hr₂ => ?_
      · obtain ⟨ol, hol, hcl, nl, hdl⟩ := hl
        obtain ⟨ocls, odict, odata, oslots⟩ := ol
        simp only at hcl hdl
        subst hcl; subst hdl
        have hol' : (s.heap.push { cls := .type "set", dict := none, data := .set #[] 0 (.fresh 0 0 led) }).get? l = some { cls := .type "tuple", dict := odict, data := .seq items nl, slots := oslots } := Heap.get?_push_of_some _ hol
        have hsls := F.sub_tuple_set
        have hslf := F.sub_tuple_frozenset
        have hne : (Value.type "tuple" == Value.type "dict") = false := by decide
        have hl1 : (s.heap.push { cls := .type "set", dict := none, data := .set #[] 0 (.fresh 0 0 led) }).IsTuple l items := ⟨_, hol', rfl, nl, rfl⟩
        unfold Builtin.«set.__init__» noKeywords Builtin.Frozenset.updateFrom
        generalize hPI : pyIter = PI
        wp_walk
        subst hPI

        refine wpAny_pyIter_tuple hl1 ?_
        refine wpAny_bind (wpAny_runValue ?_)
        have hlS : l < s.heap.objs.size := Heap.lt_size hol
        have hh3 : A.in1.in1.in1.handled = none := by simp [hh]
        have hneI : l ≠ (s.heap.push { cls := .type "set", dict := none, data := .set #[] 0 (.fresh 0 0 led) }).objs.size := by
          rw [Heap.size_push]; exact Nat.ne_of_lt (Nat.lt_succ_of_lt hlS)
        have hSf : s.heap.objs.size ∉ [(s.heap.push { cls := .type "set", dict := none, data := .set #[] 0 (.fresh 0 0 led) }).objs.size, l] := by
          rw [Heap.size_push]; simp only [List.mem_cons, List.mem_singleton, List.not_mem_nil, or_false, not_or]
          exact ⟨Nat.ne_of_lt (Nat.lt_succ_self _), Nat.ne_of_gt hlS⟩
        have hval : ∀ (i : Nat) (v : Value), items[i]? = some v → ∃ t, v = .int ((fun i => ns.getD i 0) i) t := fun i v hv =>
          PyProof.Rows.IntsAre.int_at hi i v (by rw [Array.getElem?_toList]; exact hv)
        refine PyProof.Rows.codeAny_set_update_loopS ((Walks.tuple hh3 _ l hneI items).toS) s.heap.objs.size
          hSf (fun i => ns.getD i 0) hval hb (items.size - 0) 0 _ (by omega) (Nat.zero_le _)
          ⟨⟨_, Heap.get?_push_size _ rfl, rfl, rfl⟩, (hl1.at fun o e => Heap.get?_push_of_some _ e)⟩ ?hS0 ?hR
        case hS0 =>
          have hget : ((s.heap.push { cls := .type "set", dict := none, data := .set #[] 0 (.fresh 0 0 led) }).push { cls := .type "tuple_iterator", data := .fields #[.ref l, .int 0 0] }).get? s.heap.objs.size
              = some { cls := .type "set", dict := none, data := .set #[] 0 (.fresh 0 0 led) } := Heap.get?_push_of_some _ hS
          exact PyProof.Rows.SetOf_congr ((PyProof.Rows.setObjOf_fresh (knd := intKind prog w) led).setOf hget (by unfold scanBound; omega)) (fun _ => rfl) rfl
        case hR =>
          intro s' hm hS'
          obtain ⟨h', g', d', tk', os'⟩ := s'
          have eg : g' = s.gens := hm.gens
          have ed : d' = s.drawn := hm.drawn
          have eo : os' = s.os := hm.os
          subst eg; subst ed; subst eo
          show wpAny _ _ _ _ _ _
          refine wpAny_pure ?_
          show wpAny _ _ (ret Value.none) _ _ _
          refine wpAny_pure ⟨rfl, h', tk', rfl, hS', fun b o hb e => ?_⟩
          have hb1 : b ≠ s.heap.objs.size := Nat.ne_of_lt hb
          have hb2 : b ≠ (s.heap.push { cls := .type "set", dict := none, data := .set #[] 0 (.fresh 0 0 led) }).objs.size := by
            rw [Heap.size_push]; exact Nat.ne_of_lt (Nat.lt_succ_of_lt hb)
          exact hm.heap b o (by simp only [List.mem_cons, List.mem_singleton, List.not_mem_nil, or_false, not_or]; exact ⟨hb1, hb2⟩) (Heap.get?_push_of_some _ (Heap.get?_push_of_some _ e))

      · cases r₂ with
        | error e => exact hr₂
        | ok fl₂ =>
          cases fl₂ with
          | ret r =>
            obtain ⟨rfl, h', tk, rfl, hS', hk'⟩ := hr₂
            repeat (any_goals (first | assumption | wp_step))
            exact h _ _ hS' hk'
          | _ => exact hr₂.elim
    | _ => exact hr.elim
end
end SetI

set_option Elab.async false
set_option linter.all false
set_option maxRecDepth 100000
set_option maxHeartbeats 4000000
namespace L2
open PySem PySem.Spec PyProof.Rows
/-! ### set(a tuple of ints), its size -/
theorem firstMet_self : ∀ (ns : List Int), ns.Nodup → (firstMet (fun i => ns.getD i 0) ns.length).length = ns.length := by
  intro ns nd
  have key : ∀ i, i ≤ ns.length → firstMet (fun i => ns.getD i 0) i = ns.take i := by
    intro i
    induction i with
    | zero => intro _; rfl
    | succ i ih =>
      intro hi
      rw [firstMet_succ, ih (by omega)]
      unfold step_dedup
      have hg : ns.getD i 0 = ns[i] := by rw [List.getD_eq_getElem?_getD, List.getElem?_eq_getElem (by omega)]; rfl
      rw [hg]
      have hno : ¬ ((ns.take i).any (· == ns[i]) = true) := by
        intro h
        rw [List.any_eq_true] at h
        obtain ⟨x, hx, e⟩ := h
        have e' : x = ns[i] := by simpa using e
        obtain ⟨j, hj, ej⟩ := List.getElem_of_mem hx
        rw [List.length_take] at hj
        rw [List.getElem_take] at ej
        have := (List.getElem_inj (h₀ := by omega) (h₁ := by omega) nd).mp (ej.trans e')
        omega
      rw [if_neg hno, List.take_add_one, List.getElem?_eq_getElem (by omega)]
      rfl
  rw [key _ (Nat.le_refl _), List.take_length]
section
variable {X : Cx}
theorem ints_of {ns : List Int} : ∀ {us : List Value}, Vals (ns.map V.int) us → IntsAre us ns := by
  induction ns with
  | nil => intro us r; cases r; exact .nil
  | cons k ks ih =>
    intro us r
    cases r with
    | cons h t =>
      obtain ⟨tk, rfl⟩ := h
      exact .cons _ _ (ih t)
def rSetI (K : PySem.W.Frag) : List V → Hp → VK → Prop := fun xs H Q => ∃ p, ∃ ns : List Int, xs = [.ref p] ∧ SqT K H p (ns.map V.int) ∧ ns.length ≤ 1000 ∧ ∀ q S H', Same H H' → H' q = some (.set S (firstMet (fun i => ns.getD i 0) ns.length).length) → Q (.ref q) H'
theorem call_setI {k : Nat} (hr : Room k X.A) : CallR X (.type "set") (rSetI X.K) := by
  intro pins s σ H xs us Q I r h
  obtain ⟨p, ns, rfl, hp, h1000, q⟩ := h
  obtain ⟨u, rfl, rx⟩ := vals1 r
  cases (show u = Value.ref p from rx)
  obtain ⟨its, rv, pl, hz⟩ := I.tuple hp
  have hvl := rv.length
  rw [List.length_map] at hvl
  refine SetI.call_set_tupI (ns := ns) hr.hd pl (by simpa using ints_of rv) (by rw [List.size_toArray, ← hvl]; unfold scanBound; omega) fun h' tk hS kp => ?_
  have esz : its.toArray.size = ns.length := by rw [List.size_toArray]; omega
  rw [esz] at hS
  have kp' : ∀ b o, s.heap.get? b = some o → h'.get? b = some o := fun b o e => kp b o (Heap.lt_size e) e
  refine ⟨.ref s.heap.objs.size, _, I.laid (t' := tk) (o := .set (fun k' => (firstMet (fun i => ns.getD i 0) ns.length).any (· == k')) (firstMet (fun i => ns.getD i 0) ns.length).length) kp' (Nat.le_refl _) ?_, rfl, q _ (fun k' => (firstMet (fun i => ns.getD i 0) ns.length).any (· == k')) _ (same_add (I.hok.fresh (Nat.le_refl _))) upd_same⟩
  exact hS
def rLenI : List V → Hp → VK → Prop := fun xs H Q => ∃ q S n, xs = [.ref q] ∧ H q = some (.set S n) ∧ n ≤ 100000 ∧ Q (.int n) H
theorem call_lenI : CallR X (.builtin "len") rLenI := by
  intro pins s σ H xs us Q I r h
  obtain ⟨p, S, n, rfl, hp, hn, q⟩ := h
  obtain ⟨u, rfl, rx⟩ := vals1 r
  cases (show u = Value.ref p from rx)
  obtain ⟨o, es, ep, t, ho, hex, hd, _, _, _, hf, he⟩ : s.heap.SetOf (intKind X.prog X.w) p S n := (I.hok p _ hp)
  refine call_len_set ho hex hd hf (by omega) ⟨.int n, H, I.tok _, ⟨_, by rw [he]⟩, q⟩
end
end L2

set_option Elab.async false
set_option linter.all false
set_option maxRecDepth 100000
namespace L2
open PySem PySem.Spec PyProof.Rows
/-! ### lists of pairs as tables -/
section
variable {κ : Type} [DecidableEq κ]
def valV (kvs : List (κ × V)) (k : κ) : Option V := (kvs.find? fun kv => decide (kv.1 = k)).map (·.2)
/-- in its place, or at the end -/
def putK (kvs : List (κ × V)) (k : κ) (v : V) : List (κ × V) :=
  if (kvs.any fun kv => decide (kv.1 = k)) = true then kvs.map (fun kv => if kv.1 = k then (kv.1, v) else kv) else kvs ++ [(k, v)]
def dropK (kvs : List (κ × V)) (k : κ) : List (κ × V) := kvs.filter fun kv => decide (kv.1 ≠ k)

theorem valV_nil {k : κ} : valV ([] : List (κ × V)) k = none := rfl
theorem valV_pos {p : κ × V} {r : List (κ × V)} {k : κ} (e : p.1 = k) : valV (p :: r) k = some p.2 := by simp [valV, List.find?_cons, e]
theorem valV_neg {p : κ × V} {r : List (κ × V)} {k : κ} (e : ¬ p.1 = k) : valV (p :: r) k = valV r k := by simp [valV, List.find?_cons, e]
theorem valV_any (k : κ) : ∀ kvs : List (κ × V), (kvs.any fun kv => decide (kv.1 = k)) = (valV kvs k).isSome
  | [] => rfl
  | p :: r => by
    rw [List.any_cons]
    by_cases e : p.1 = k
    · simp only [valV_pos e, decide_eq_true e, Bool.true_or, Option.isSome_some]
    · rw [valV_neg e, decide_eq_false e, Bool.false_or]; exact valV_any k r
theorem valV_map (k j : κ) (y : V) : ∀ kvs : List (κ × V), valV (kvs.map fun kv => if kv.1 = k then (kv.1, y) else kv) j = (valV kvs j).map fun x => if j = k then y else x
  | [] => rfl
  | p :: r => by
    have ih := valV_map k j y r
    rw [List.map_cons]
    by_cases h : p.1 = k
    · rw [if_pos h]
      by_cases e : p.1 = j
      · rw [valV_pos (p := (p.1, y)) e, valV_pos e, Option.map_some, if_pos (e.symm.trans h)]
      · rw [valV_neg (p := (p.1, y)) e, valV_neg e, ih]
    · rw [if_neg h]
      by_cases e : p.1 = j
      · rw [valV_pos (p := p) e, valV_pos e, Option.map_some, if_neg (fun z => h (e.trans z))]
      · rw [valV_neg (p := p) e, valV_neg e, ih]
theorem valV_snoc (k j : κ) (y : V) : ∀ kvs : List (κ × V), valV kvs k = none → valV (kvs ++ [(k, y)]) j = if j = k then some y else valV kvs j
  | [], _ => by
    by_cases e : k = j
    · rw [if_pos e.symm]; exact valV_pos (p := (k, y)) e
    · rw [if_neg (fun z => e z.symm)]; exact valV_neg (p := (k, y)) e
  | p :: r, hn => by
    rw [List.cons_append]
    have hk : ¬ p.1 = k := fun z => by rw [valV_pos z] at hn; cases hn
    rw [valV_neg hk] at hn
    have ih := valV_snoc k j y r hn
    by_cases e : p.1 = j
    · rw [valV_pos e, valV_pos e, if_neg (fun z => hk (e.trans z))]
    · rw [valV_neg e, valV_neg e, ih]
theorem valV_put (kvs : List (κ × V)) (k j : κ) (y : V) : valV (putK kvs k y) j = if j = k then some y else valV kvs j := by
  unfold putK
  by_cases a : (kvs.any fun kv => decide (kv.1 = k)) = true
  · rw [if_pos a, valV_map]
    rw [valV_any] at a
    by_cases e : j = k
    · obtain ⟨x, hx⟩ := Option.isSome_iff_exists.mp a
      rw [if_pos e, e, hx, Option.map_some, if_pos rfl]
    · rw [if_neg e]
      cases valV kvs j with
      | none => rfl
      | some x => rw [Option.map_some, if_neg e]
  · rw [if_neg a]
    refine valV_snoc k j y kvs ?_
    rw [valV_any] at a
    cases q : valV kvs k with
    | none => rfl
    | some x => rw [q] at a; exact (a rfl).elim
theorem length_putK (kvs : List (κ × V)) (k : κ) (v : V) : (putK kvs k v).length ≤ kvs.length + 1 := by
  unfold putK
  split
  · rw [List.length_map]; omega
  · rw [List.length_append, List.length_cons, List.length_nil]; omega
theorem putK_new {kvs : List (κ × V)} {k : κ} (v : V) (h : valV kvs k = none) : putK kvs k v = kvs ++ [(k, v)] := by
  unfold putK
  rw [valV_any, h]
  exact if_neg (by decide)

theorem RelO.isSome_eq {o : Option V} {u : Option Value} (r : RelO o u) : o.isSome = u.isSome := by
  cases o with
  | none => cases u with
    | none => rfl
    | some _ => exact (show False from r).elim
  | some _ => cases u with
    | none => exact (show False from r).elim
    | some _ => rfl
theorem RelO.getD {o : Option V} {u : Option Value} {d : V} {d' : Value} (r : RelO o u) (rd : RelV d d') : RelV (o.getD d) (u.getD d') := by
  cases o with
  | none => cases u with
    | none => exact rd
    | some _ => exact (show False from r).elim
  | some _ => cases u with
    | none => exact (show False from r).elim
    | some _ => exact r

/-- raw tables of the same keys -/
theorem KV.val {kvs : List (κ × V)} {vs : List (κ × Value)} (r : KV kvs vs) (k : κ) : RelO (valV kvs k) (valueAt vs k) := by
  unfold KV at r
  induction r with
  | nil => exact True.intro
  | @cons p q ps qs h t ih =>
    obtain ⟨h1, h2⟩ := h
    by_cases e : p.1 = k
    · have e' : q.1 = k := h1.symm.trans e
      have b : valueAt (q :: qs) k = some q.2 := by simp [valueAt, List.find?_cons, e']
      rw [valV_pos e, b]; exact h2
    · have e' : ¬ q.1 = k := fun z => e (h1.trans z)
      have b : valueAt (q :: qs) k = valueAt qs k := by simp [valueAt, List.find?_cons, e']
      rw [valV_neg e, b]; exact ih
theorem KV.any {kvs : List (κ × V)} {vs : List (κ × Value)} (r : KV kvs vs) (k : κ) : (kvs.any fun kv => decide (kv.1 = k)) = vs.any fun kv => decide (kv.1 = k) := by
  unfold KV at r
  induction r with
  | nil => rfl
  | cons h t ih => rw [List.any_cons, List.any_cons, ih, h.1]
theorem KV.repl {kvs : List (κ × V)} {vs : List (κ × Value)} (r : KV kvs vs) (k : κ) {y : V} {u : Value} (ry : RelV y u) :
    KV (kvs.map fun kv => if kv.1 = k then (kv.1, y) else kv) (vs.map fun kv => if kv.1 = k then (kv.1, u) else kv) := by
  unfold KV at r ⊢
  induction r with
  | nil => exact .nil
  | @cons p q ps qs h t ih =>
    rw [List.map_cons, List.map_cons]
    refine .cons ?_ ih
    obtain ⟨h1, h2⟩ := h
    by_cases e : p.1 = k
    · rw [if_pos e, if_pos (h1.symm.trans e)]; exact ⟨h1, ry⟩
    · rw [if_neg e, if_neg (fun z => e (h1.trans z))]; exact ⟨h1, h2⟩
theorem KV.put {kvs : List (κ × V)} {vs : List (κ × Value)} (r : KV kvs vs) (k : κ) {y : V} {u : Value} (ry : RelV y u) : KV (putK kvs k y) (stored vs k u) := by
  unfold putK stored
  rw [r.any k]
  by_cases e : (vs.any fun kv => decide (kv.1 = k)) = true
  · rw [if_pos e, if_pos e]; exact r.repl k ry
  · rw [if_neg e, if_neg e]; exact Paired.snoc r ⟨rfl, ry⟩
theorem KV.drop {kvs : List (κ × V)} {vs : List (κ × Value)} (r : KV kvs vs) (k : κ) : KV (dropK kvs k) (without vs k) := by
  unfold KV at r ⊢
  unfold dropK without
  induction r with
  | nil => exact .nil
  | @cons p q ps qs h t ih =>
    obtain ⟨h1, h2⟩ := h
    rw [List.filter_cons, List.filter_cons]
    by_cases e : p.1 = k
    · have a : ¬ decide (p.1 ≠ k) = true := by simp [e]
      have b : ¬ decide (q.1 ≠ k) = true := by simp [h1.symm.trans e]
      rw [if_neg a, if_neg b]; exact ih
    · have e' : ¬ q.1 = k := fun z => e (h1.trans z)
      have a : decide (p.1 ≠ k) = true := by simp [e]
      have b : decide (q.1 ≠ k) = true := by simp [e']
      rw [if_pos a, if_pos b]; exact .cons ⟨h1, h2⟩ ih
theorem KV.keys {kvs : List (κ × V)} {vs : List (κ × Value)} (r : KV kvs vs) : kvs.map (·.1) = vs.map (·.1) := by
  unfold KV at r
  induction r with
  | nil => rfl
  | cons h t ih => rw [List.map_cons, List.map_cons, ih, h.1]
theorem KV.length {kvs : List (κ × V)} {vs : List (κ × Value)} (r : KV kvs vs) : kvs.length = vs.length := Paired.length r
theorem dropK_le (kvs : List (κ × V)) (k : κ) : (dropK kvs k).length ≤ kvs.length := List.length_filter_le _ _
end


/-! ### a tracked dict, its keys ints and texts or tuples of these -/
theorem kV_is {P : Program} {w : World} {k : Key} {u : Value} (r : RelV (kV k) u) : (mixKind P w).is k u = true := by
  cases k with
  | inl i => obtain ⟨t, e⟩ := (show ∃ t, u = Value.int i t from r); subst e; exact mixKind_int P w i t
  | inr x => obtain ⟨t, e⟩ := (show ∃ t, u = Value.str x t from r); subst e; exact mixKind_str P w x t
theorem kV_inj {a b : Key} (e : kV a = kV b) : a = b := by
  cases a with
  | inl i => cases b with
    | inl j => have e' : V.int i = V.int j := e; injection e' with e'; rw [e']
    | inr y => exact nomatch (show V.int i = V.str y from e)
  | inr x => cases b with
    | inl j => exact nomatch (show V.str x = V.int j from e)
    | inr y => have e' : V.str x = V.str y := e; injection e' with e'; rw [e']
theorem kVs_inj : ∀ {a b : List Key}, a.map kV = b.map kV → a = b
  | [], [], _ => rfl
  | [], _ :: _, e => by simp at e
  | _ :: _, [], e => by simp at e
  | x :: xs, y :: ys, e => by
    rw [List.map_cons, List.map_cons] at e
    injection e with e1 e2
    rw [kV_inj e1, kVs_inj e2]
theorem items_are {P : Program} {w : World} : ∀ {ks : List Key} {us : List Value}, Vals (ks.map kV) us → ItemsAre (mixKind P w) ks us
  | [], _, r => by rw [List.map_nil] at r; cases r; exact .nil
  | k :: ks, _, r => by
    rw [List.map_cons] at r
    cases r with
    | cons h t => exact .cons (kV_is h) (items_are t)

/-- raw entries of a dict with tuple keys -/
abbrev KT (H : Hp) : List (List Key × V) → List (List Key × Addr × Value) → Prop := Paired fun p q => p.1 = q.1 ∧ H q.2.1 = some (.tup (p.1.map kV)) ∧ RelV p.2 q.2.2
theorem KT.val {H : Hp} {kvs : List (List Key × V)} {xs : List (List Key × Addr × Value)} (r : KT H kvs xs) (k : List Key) : RelO (valV kvs k) ((atKey xs k).map (·.2)) := by
  induction r with
  | nil => exact True.intro
  | @cons p q ps qs h t ih =>
    obtain ⟨h1, _, h2⟩ := h
    by_cases e : p.1 = k
    · have e' : q.1 = k := h1.symm.trans e
      have b : atKey (q :: qs) k = some q.2 := by simp [atKey, List.find?_cons, e']
      rw [valV_pos e, b]; exact h2
    · have e' : ¬ q.1 = k := fun z => e (h1.trans z)
      have b : atKey (q :: qs) k = atKey qs k := by simp [atKey, List.find?_cons, e']
      rw [valV_neg e, b]; exact ih
theorem KT.repl {H : Hp} {kvs : List (List Key × V)} {xs : List (List Key × Addr × Value)} (r : KT H kvs xs) (k : List Key) {y : V} {u : Value} (ry : RelV y u) :
    KT H (kvs.map fun kv => if kv.1 = k then (kv.1, y) else kv) (xs.map (putAt k u)) := by
  induction r with
  | nil => exact .nil
  | @cons p q ps qs h t ih =>
    rw [List.map_cons, List.map_cons]
    refine .cons ?_ ih
    obtain ⟨h1, h2, h3⟩ := h
    unfold putAt
    by_cases e : p.1 = k
    · rw [if_pos e, if_pos (h1.symm.trans e)]; exact ⟨h1, h2, ry⟩
    · rw [if_neg e, if_neg (fun z => e (h1.trans z))]; exact ⟨h1, h2, h3⟩
theorem KT.put {H : Hp} {kvs : List (List Key × V)} {xs : List (List Key × Addr × Value)} (r : KT H kvs xs) (k : List Key) {b : Addr} {y : V} {u : Value} (hb : H b = some (.tup (k.map kV))) (ry : RelV y u) :
    KT H (putK kvs k y) (storedH xs k b u) := by
  have e : (kvs.any fun kv => decide (kv.1 = k)) = (atKey xs k).isSome := by
    rw [valV_any, (r.val k).isSome_eq, Option.isSome_map]
  unfold putK storedH
  rw [e]
  by_cases q : (atKey xs k).isSome = true
  · rw [if_pos q, if_pos q]; exact r.repl k ry
  · rw [if_neg q, if_neg q]; exact Paired.snoc r ⟨rfl, hb, ry⟩
theorem KT.keeps {H H' : Hp} {kvs : List (List Key × V)} {xs : List (List Key × Addr × Value)} (r : KT H kvs xs) (ht : ∀ b ys, H b = some (.tup ys) → H' b = some (.tup ys)) : KT H' kvs xs :=
  Paired.mapP r fun _ _ z => ⟨z.1, ht _ _ z.2.1, z.2.2⟩

section
variable {P : Program} {w : World} {H : Hp} {h : Heap} {a : Addr}
theorem rd_of {u : HO} (ok : HOk P w H h) (e : Rd H a u) : ObjOk P w H h a u := e.ok ok
theorem dk_rd {kvs : List (Key × V)} (ok : HOk P w H h) (e : Rd H a (.dK kvs)) : kvs.length ≤ sizeLine ∧ (a == sysModules) = false ∧ ∃ vs, KV kvs vs ∧ h.DictOf (mixKind P w) a vs :=
  show ObjOk P w H h a (.dK kvs) from rd_of ok e
theorem dk_of {kvs : List (Key × V)} (ok : HOk P w H h) (e : H a = some (.dK kvs)) : kvs.length ≤ sizeLine ∧ (a == sysModules) = false ∧ ∃ vs, KV kvs vs ∧ h.DictOf (mixKind P w) a vs := dk_rd ok (.inl e)
/-- a tracked tuple of ints and texts is a key -/
theorem key_of {ks : List Key} (ok : HOk P w H h) (e : H a = some (.tup (ks.map kV))) : (tupleKind (mixKind P w)).is h ks a := by
  obtain ⟨_, its, r, o, h1, h2, n, h3⟩ := (show ObjOk P w H h a (.tup (ks.map kV)) from ok a _ e)
  exact ⟨o, its.toArray, n, h1, h2, h3, by simpa using items_are r⟩
theorem dt_rd {kvs : List (List Key × V)} (ok : HOk P w H h) (e : Rd H a (.dT kvs)) : kvs.length ≤ sizeLine ∧ (a == sysModules) = false ∧
    ∃ xs, KT H kvs xs ∧ h.DictOfH (tupleKind (mixKind P w)) a xs := by
  obtain ⟨z, y, xs, r, o, es, ep, h1, h2, h3, h4, h5⟩ := (show ObjOk P w H h a (.dT kvs) from rd_of ok e)
  refine ⟨z, y, xs, r, o, es, ep, h1, h2, h3, h4, fun x hx => ?_, h5⟩
  have all : ∀ {l : List (List Key × V)} {m : List (List Key × Addr × Value)}, KT H l m → ∀ x ∈ m, (tupleKind (mixKind P w)).is h x.1 x.2.1 := by
    intro l m q
    induction q with
    | nil => intro x hx; exact nomatch hx
    | @cons p q ps qs hq t ih =>
      intro x hx
      rcases List.mem_cons.mp hx with e | hx
      · subst e
        exact key_of ok (by rw [← hq.1]; exact hq.2.1)
      · exact ih x hx
  exact all r x hx
theorem dt_of {kvs : List (List Key × V)} (ok : HOk P w H h) (e : H a = some (.dT kvs)) : kvs.length ≤ sizeLine ∧ (a == sysModules) = false ∧
    ∃ xs, KT H kvs xs ∧ h.DictOfH (tupleKind (mixKind P w)) a xs := dt_rd ok (.inl e)
end

/-- what the dict at a holds at the key y -/
def DGet (H : Hp) (a : Addr) (y : V) (r : Option V) : Prop :=
  (∃ kvs k, Rd H a (.dK kvs) ∧ y = kV k ∧ r = valV kvs k) ∨ ∃ kvs k b, Rd H a (.dT kvs) ∧ y = .ref b ∧ H b = some (.tup (k.map kV)) ∧ r = valV kvs k
/-- the heap behind a[y] = v -/
def DPut (H : Hp) (a : Addr) (y v : V) (H' : Hp) : Prop :=
  (∃ kvs k, H a = some (.dK kvs) ∧ y = kV k ∧ kvs.length < sizeLine ∧ H' = upd H a (.dK (putK kvs k v))) ∨
  ∃ kvs k b, H a = some (.dT kvs) ∧ y = .ref b ∧ H b = some (.tup (k.map kV)) ∧ kvs.length < sizeLine ∧ H' = upd H a (.dT (putK kvs k v))
theorem DGet.k {H : Hp} {a : Addr} {kvs : List (Key × V)} {k : Key} (e : H a = some (.dK kvs)) : DGet H a (kV k) (valV kvs k) := .inl ⟨kvs, k, .inl e, rfl, rfl⟩
theorem DGet.t {H : Hp} {a b : Addr} {kvs : List (List Key × V)} {k : List Key} (e : H a = some (.dT kvs)) (eb : H b = some (.tup (k.map kV))) : DGet H a (.ref b) (valV kvs k) := .inr ⟨kvs, k, b, .inl e, rfl, eb, rfl⟩
theorem DPut.k {H : Hp} {a : Addr} {kvs : List (Key × V)} {k : Key} {v : V} (e : H a = some (.dK kvs)) (hl : kvs.length < sizeLine) : DPut H a (kV k) v (upd H a (.dK (putK kvs k v))) := .inl ⟨kvs, k, e, rfl, hl, rfl⟩
theorem DPut.t {H : Hp} {a b : Addr} {kvs : List (List Key × V)} {k : List Key} {v : V} (e : H a = some (.dT kvs)) (eb : H b = some (.tup (k.map kV))) (hl : kvs.length < sizeLine) :
    DPut H a (.ref b) v (upd H a (.dT (putK kvs k v))) := .inr ⟨kvs, k, b, e, rfl, eb, hl, rfl⟩


section
variable {X : Cx} {pins : List (Addr × Obj)} {σ : St} {H : Hp} {s : Shared} {a : Addr} {y v : V} {u r : Value} {o : Option V} {A : Around} {E : Value → Shared → Prop}


/-- d[y], there -/
theorem d_getItem {Q : Value → Shared → Prop} (hu : A.units + 1 < cLine) (I : Inv X pins σ H s) (g : DGet H a y (some v)) (ry : RelV y u) (h : ∀ w' s', Inv X pins σ H s' → RelV v w' → Q w' s') :
    wpAny (model X.prog X.w) A (getItem (.ref a) u) Q E s := by
  rcases g with ⟨kvs, k, e, ey, l⟩ | ⟨kvs, k, b, e, ey, eb, l⟩
  · subst ey
    obtain ⟨z, hd, vs, rel, dd⟩ := dk_rd I.hok e
    obtain ⟨w', hw, rw'⟩ := RelO.some_of (v := v) (o := valueAt vs k) (by rw [l]; exact rel.val k)
    exact wpAny_getItem_of (kV_is ry) dd.mapOf hw (h w' _ (I.tok _) rw')
  · subst ey
    cases (show u = Value.ref b from ry)
    obtain ⟨z, hd, xs, rel, dd⟩ := dt_rd I.hok e
    obtain ⟨w', hw, rw'⟩ := RelO.some_of (v := v) (o := (atKey xs k).map (·.2)) (by rw [l]; exact rel.val k)
    obtain ⟨p, hp, hp2⟩ := Option.map_eq_some_iff.mp hw
    refine wpAny_getItem_heap (tupleKind_room_in1 hu) (key_of I.hok eb) dd hp ?_
    rw [hp2]
    exact h w' _ (I.tok _) rw'
/-- y in d -/
theorem d_in {Q : Value → Shared → Prop} (hu : A.units + 1 < cLine) (I : Inv X pins σ H s) (g : DGet H a y o) (ry : RelV y u) (h : ∀ s', Inv X pins σ H s' → Q (.bool o.isSome) s') :
    wpAny (model X.prog X.w) A (compareOp .In u (.ref a)) Q E s := by
  rcases g with ⟨kvs, k, e, ey, l⟩ | ⟨kvs, k, b, e, ey, eb, l⟩
  · subst ey
    obtain ⟨z, hd, vs, rel, dd⟩ := dk_rd I.hok e
    refine wpAny_in_of (kV_is ry) hd dd.mapOf ?_
    rw [← (rel.val k).isSome_eq, ← l]
    exact h _ (I.tok _)
  · subst ey
    cases (show u = Value.ref b from ry)
    obtain ⟨z, hd, xs, rel, dd⟩ := dt_rd I.hok e
    refine wpAny_in_heap (tupleKind_room_in1 hu) (key_of I.hok eb) hd dd ?_
    have q := (rel.val k).isSome_eq
    rw [Option.isSome_map] at q
    rw [← q, ← l]
    exact h _ (I.tok _)
theorem d_notIn {Q : Value → Shared → Prop} (hu : A.units + 1 < cLine) (I : Inv X pins σ H s) (g : DGet H a y o) (ry : RelV y u) (h : ∀ s', Inv X pins σ H s' → Q (.bool (!o.isSome)) s') :
    wpAny (model X.prog X.w) A (compareOp .NotIn u (.ref a)) Q E s := by
  rcases g with ⟨kvs, k, e, ey, l⟩ | ⟨kvs, k, b, e, ey, eb, l⟩
  · subst ey
    obtain ⟨z, hd, vs, rel, dd⟩ := dk_rd I.hok e
    refine wpAny_notIn_of (kV_is ry) hd dd.mapOf ?_
    rw [← (rel.val k).isSome_eq, ← l]
    exact h _ (I.tok _)
  · subst ey
    cases (show u = Value.ref b from ry)
    obtain ⟨z, hd, xs, rel, dd⟩ := dt_rd I.hok e
    refine wpAny_notIn_heap (tupleKind_room_in1 hu) (key_of I.hok eb) hd dd ?_
    have q := (rel.val k).isSome_eq
    rw [Option.isSome_map] at q
    rw [← q, ← l]
    exact h _ (I.tok _)
/-- a dict's object is replaced -/
theorem d_write {h' : Heap} {t' : Nat} {ob : HO} (I : Inv X pins σ H s) (mu : Mut (H a)) (hs : Heap.SameBut a s.heap h') (he : ∃ q, h'.get? a = some q) (new : ObjOk X.prog X.w (upd H a ob) h' a ob) :
    Inv X pins σ (upd H a ob) { s with heap := h', toks := t' } :=
  I.write (x := a) (e := a) mu (.inl rfl) (fun b q hb z => (hs.2 b hb).trans z) he new
theorem dk_new {P : Program} {w : World} {H' : Hp} {h' : Heap} {kvs : List (Key × V)} {vs : List (Key × Value)} (z : kvs.length ≤ sizeLine) (hd : (a == sysModules) = false) (rel : KV kvs vs) (dd : h'.DictOf (mixKind P w) a vs) :
    ObjOk P w H' h' a (.dK kvs) := ⟨z, hd, vs, rel, dd⟩
/-- d[y] = v -/
theorem d_setItem {H' : Hp} {Q : Unit → Shared → Prop} (hu : A.units + 1 < cLine) (I : Inv X pins σ H s) (g : DPut H a y v H') (ry : RelV y u) (rv : RelV v r) (h : ∀ s', Inv X pins σ H' s' → Q () s') :
    wpAny (model X.prog X.w) A (setItem (.ref a) u r) Q E s := by
  rcases g with ⟨kvs, k, e, ey, l, eH⟩ | ⟨kvs, k, b, e, ey, eb, l, eH⟩
  · subst ey eH
    obtain ⟨z, hd, vs, rel, dd⟩ := dk_of I.hok e
    have hz : vs.length ≤ sizeLine := by rw [← rel.length]; exact z
    have hl : (putK kvs k v).length ≤ sizeLine := by have := length_putK kvs k v; omega
    refine wpAny_setItem_pairs (hsz := hz) (kV_is ry) dd fun h' dd' hs => h _ ?_
    have he : ∃ q, h'.get? a = some q := let ⟨q, _, _, hq, _⟩ := dd'; ⟨q, hq⟩
    exact d_write I (by rw [e]; exact True.intro) hs he (dk_new hl hd (rel.put k rv) dd')
  · subst ey eH
    cases (show u = Value.ref b from ry)
    obtain ⟨z, hd, xs, rel, dd⟩ := dt_of I.hok e
    have hz : xs.length ≤ sizeLine := by rw [← Paired.length rel]; exact z
    have hl : (putK kvs k v).length ≤ sizeLine := by have := length_putK kvs k v; omega
    refine wpAny_setItem_heap (hsz := hz) (tupleKind_room_in1 hu) (key_of I.hok eb) dd fun h' dd' hs => h _ ?_
    obtain ⟨q, es, ep, hq, h2, h3, h4, _, h5⟩ := dd'
    refine d_write I (by rw [e]; exact True.intro) hs ⟨q, hq⟩ ⟨hl, hd, _, (rel.put k eb rv).keeps fun c ys ec => ?_, q, es, ep, hq, h2, h3, h4, h5⟩
    rw [upd_ne (ne_of ec e (fun z => nomatch z))]
    exact ec
end

section
variable {X : Cx} {pins : List (Addr × Obj)} {σ : St} {H : Hp} {s : Shared} {a : Addr} {kvs : List (Key × V)} {k : Key} {u : Value} {A : Around} {E : Value → Shared → Prop}
/-- del d[k] -/
theorem d_delItem {Q : Unit → Shared → Prop} (I : Inv X pins σ H s) (e : H a = some (.dK kvs)) (ry : RelV (kV k) u) (l : (valV kvs k).isSome = true) (h : ∀ s', Inv X pins σ (upd H a (.dK (dropK kvs k))) s' → Q () s') :
    wpAny (model X.prog X.w) A (delItem (.ref a) u) Q E s := by
  obtain ⟨z, hd, vs, rel, dd⟩ := dk_of I.hok e
  refine wpAny_delItem_slot dd.typeIs (by decide) PySem.F.slot_dict_delitem
    (call_meetsIn PySem.F.slot_dict_delitem dd.typeIs PySem.F.entry_dict_delitem (PySem.F.args_dict_delitem_2 _ _) (meets_dict_delitem_pairs (mixKind X.prog X.w) a (kV_is ry)) ⟨vs, dd, by rw [← rel.length]; exact z, by rw [← (rel.val k).isSome_eq]; exact l, fun h' dd' hs => h _ ?_⟩)
  have he : ∃ q, h'.get? a = some q := let ⟨q, _, _, hq, _⟩ := dd'; ⟨q, hq⟩
  exact d_write I (by rw [e]; exact True.intro) hs he (dk_new (Nat.le_trans (dropK_le kvs k) z) hd (rel.drop k) dd')
/-- d.pop(k[, x]), there -/
theorem d_pop {v : V} {more : List Value} {Q : Value → Shared → Prop} (I : Inv X pins σ H s) (e : H a = some (.dK kvs)) (ry : RelV (kV k) u) (l : valV kvs k = some v) (hm : more = [] ∨ ∃ x, more = [x])
    (h : ∀ w' s', Inv X pins σ (upd H a (.dK (dropK kvs k))) s' → RelV v w' → Q w' s') : wpAny (model X.prog X.w) A (call (.builtin "dict.pop") (.ref a :: u :: more)) Q E s := by
  obtain ⟨z, hd, vs, rel, dd⟩ := dk_of I.hok e
  obtain ⟨w', hw, rw'⟩ := RelO.some_of (v := v) (o := valueAt vs k) (by rw [← l]; exact rel.val k)
  have hp : (keyPart u).isSome = true := by
    cases k with
    | inl i => obtain ⟨t, q⟩ := (show ∃ t, u = Value.int i t from ry); subst q; rfl
    | inr x => obtain ⟨t, q⟩ := (show ∃ t, u = Value.str x t from ry); subst q; rfl
  have ha : argsOk "dict.pop" ⟨.ref a :: u :: more, []⟩ := by
    rcases hm with q | ⟨x, q⟩
    · subst q; exact PySem.F.args_dict_pop_2 _ _
    · subst q; exact PySem.F.args_dict_pop_3 _ _ _
  refine call_meetsIn PySem.F.slot_dict_pop dd.typeIs PySem.F.entry_dict_pop ha (meets_dict_pop_there (mixKind X.prog X.w) a (kV_is ry) more hm hp)
    ⟨vs, w', dd, by rw [← rel.length]; exact z, hw, fun h' dd' hs => h w' _ ?_ rw'⟩
  have he : ∃ q, h'.get? a = some q := let ⟨q, _, _, hq, _⟩ := dd'; ⟨q, hq⟩
  exact d_write I (by rw [e]; exact True.intro) hs he (dk_new (Nat.le_trans (dropK_le kvs k) z) hd (rel.drop k) dd')
/-- d.pop(k, x), not there -/
theorem d_popD {r : Value} {Q : Value → Shared → Prop} (I : Inv X pins σ H s) (e : H a = some (.dK kvs)) (ry : RelV (kV k) u) (l : valV kvs k = none) (h : ∀ s', Inv X pins σ H s' → Q r s') :
    wpAny (model X.prog X.w) A (call (.builtin "dict.pop") [.ref a, u, r]) Q E s := by
  obtain ⟨z, hd, vs, rel, dd⟩ := dk_of I.hok e
  have hn : valueAt vs k = none := RelO.none_of (by rw [← l]; exact rel.val k)
  have hp : (keyPart u).isSome = true := by
    cases k with
    | inl i => obtain ⟨t, q⟩ := (show ∃ t, u = Value.int i t from ry); subst q; rfl
    | inr x => obtain ⟨t, q⟩ := (show ∃ t, u = Value.str x t from ry); subst q; rfl
  exact call_meetsIn PySem.F.slot_dict_pop dd.typeIs PySem.F.entry_dict_pop (PySem.F.args_dict_pop_3 _ _ _) (meets_dict_pop_default (mixKind X.prog X.w) a (kV_is ry) hd hp r) ⟨vs, dd, hn, h _ (I.tok _)⟩
/-- d.clear() -/
theorem d_clear {Q : Value → Shared → Prop} (I : Inv X pins σ H s) (e : H a = some (.dK kvs)) (h : ∀ s', Inv X pins σ (upd H a (.dK [])) s' → Q .none s') : wpAny (model X.prog X.w) A (call (.builtin "dict.clear") [.ref a]) Q E s := by
  obtain ⟨z, hd, vs, rel, dd⟩ := dk_of I.hok e
  refine call_meetsIn PySem.F.slot_dict_clear dd.typeIs PySem.F.entry_dict_clear (PySem.F.args_dict_clear_1 _) (meets_dict_clear (mixKind X.prog X.w) a) ⟨vs, dd, by rw [← rel.length]; exact z, fun h' dd' hs => h _ ?_⟩
  have he : ∃ q, h'.get? a = some q := let ⟨q, _, _, hq, _⟩ := dd'; ⟨q, hq⟩
  exact d_write (t' := s.toks) I (by rw [e]; exact True.intro) hs he (dk_new (Nat.zero_le _) hd .nil dd')
/-- len(d) -/
theorem d_len {Q : Value → Shared → Prop} (I : Inv X pins σ H s) (e : Rd H a (.dK kvs)) (h : ∀ t s', Inv X pins σ H s' → Q (.int kvs.length t) s') : wpAny (model X.prog X.w) A (call (.builtin "len") [.ref a]) Q E s := by
  obtain ⟨z, hd, vs, rel, dd⟩ := dk_rd I.hok e
  refine call_len_dict hd dd (by rw [← rel.length]; rw [sizeLine_eq] at z; omega) ?_
  rw [← rel.length]
  exact h _ _ (I.tok _)
/-- if d -/
theorem d_truth {Q : Bool → Shared → Prop} (I : Inv X pins σ H s) (e : Rd H a (.dK kvs)) (h : ∀ s', Inv X pins σ H s' → Q (!kvs.isEmpty) s') : wpAny (model X.prog X.w) A (truthy (.ref a)) Q E s := by
  obtain ⟨z, hd, vs, rel, dd⟩ := dk_rd I.hok e
  refine wpAny_truthy_dict hd dd (by rw [← rel.length]; rw [sizeLine_eq] at z; omega) ?_
  have q : kvs.isEmpty = vs.isEmpty := by cases rel <;> rfl
  rw [← q]
  exact h _ (I.tok _)
end


/-! ### readings and rules -/
/-- the element of a subscription, not a slice -/
def NoSl (i : Expr) : Prop := ∀ ov iv, subscripted i false ov iv = operate [ov, iv] (getItem ov iv)
theorem subD_of {prog : Program} {w : World} {A : Around} {E : Value → Shared → Prop} {s : Shared} {env : Env} {value slice : Expr} {pos : Pos} {T id : String} {Q : Value → Shared → Prop}
    (hl : typeLookup (.type T) "__getitem__" = pure (some (.builtin id))) (hs : NoSl slice)
    (h : wpAny (model prog w) A (eval value env) (fun o s₁ => wpAny (model prog w) A (eval slice env) (fun i s₂ => s₂.TypeIs o T ∧ wpAny (model prog w) A (getItem o i) Q E s₂) E s₁) E s) :
    wpAny (model prog w) A (eval (.Subscript value slice pos) env) Q E s := by
  refine Subscript_ (wpAny_mono h (fun o s₁ h₁ => wpAny_mono h₁ (fun i s₂ h₂ => ?_) fun _ _ x => x) fun _ _ x => x)
  obtain ⟨hT, h₂⟩ := h₂
  unfold subscriptTail
  refine wpAny_bind ?_
  rw [getitemInPython_of_ne hT.not_modules]
  refine wpAny_bind (wpAny_specialOf hT hl ?_)
  have fin : wpAny (model prog w) A (subscripted slice false o i) (fun r s₃ => wpAny (model prog w) A (letTemporaryGo value o r >>= fun _ => pure r) Q E s₃) E s₂ := by
    rw [hs o i]
    exact wpAny_operating (wpAny_mono h₂ (fun r s₃ h₃ => wpAny_bind (wpAny_letTemporaryGo (wpAny_pure h₃))) fun _ _ x => x)
  first
    | exact wpAny_pure (wpAny_bind fin)
    | exact wpAny_bind (wpAny_pure (wpAny_bind fin))
    | exact wpAny_bind fin

theorem dict_typeIs {X : Cx} {pins : List (Addr × Obj)} {σ : St} {H : Hp} {s : Shared} {a : Addr} {y : V} {o : Option V} (I : Inv X pins σ H s) (g : DGet H a y o) : s.TypeIs (.ref a) "dict" := by
  rcases g with ⟨kvs, k, e, _, _⟩ | ⟨kvs, k, b, e, _, _, _⟩
  · obtain ⟨_, _, vs, _, dd⟩ := dk_rd I.hok e
    exact dd.typeIs
  · obtain ⟨_, _, xs, _, dd⟩ := dt_rd I.hok e
    exact dd.typeIs
theorem dict_noDict {X : Cx} {pins : List (Addr × Obj)} {σ : St} {H : Hp} {s : Shared} {a : Addr} {y : V} {o : Option V} (I : Inv X pins σ H s) (g : DGet H a y o) :
    ∀ b, Value.ref a = .ref b → ∃ ob, s.heap.get? b = some ob ∧ ob.dict = none := fun b q => by
  cases q
  rcases g with ⟨kvs, k, e, _, _⟩ | ⟨kvs, k, b, e, _, _, _⟩
  · obtain ⟨_, _, vs, _, ob, _, _, h1, h2, _⟩ := dk_rd I.hok e
    exact ⟨ob, h1, h2.2.1⟩
  · obtain ⟨_, _, xs, _, ob, _, _, h1, h2, _⟩ := dt_rd I.hok e
    exact ⟨ob, h1, h2.2.1⟩

/-- d[y] -/
def tDGet (td ty : TE) : TE := fun σ H Q => td σ H fun x H1 => ty σ H1 fun y H2 => ∃ a v, x = .ref a ∧ DGet H2 a y (some v) ∧ Q v H2
/-- y in d, y not in d -/
def tDIn (ty td : TE) : TE := fun σ H Q => ty σ H fun y H1 => td σ H1 fun x H2 => ∃ a o, x = .ref a ∧ DGet H2 a y o ∧ Q (.bl o.isSome) H2
def tDNotIn (ty td : TE) : TE := fun σ H Q => ty σ H fun y H1 => td σ H1 fun x H2 => ∃ a o, x = .ref a ∧ DGet H2 a y o ∧ Q (.bl (!o.isSome)) H2
/-- d[y] = v -/
def sDPut (td ty tv : TE) : TS := fun D σ H => tv σ H fun v H1 => td σ H1 fun x H2 => ty σ H2 fun y H3 => ∃ a H4, x = .ref a ∧ DPut H3 a y v H4 ∧ D.nx σ H4
/-- d[y] op= v -/
def sDAug (td ty tv : TE) (rd : V → V → Hp → VK → Prop) : TS := fun D σ H => td σ H fun x H1 => ty σ H1 fun y H2 => ∃ a v, x = .ref a ∧ DGet H2 a y (some v) ∧
  tv σ H2 fun y2 H3 => rd v y2 H3 fun z H4 => ∃ H5, DPut H4 a y z H5 ∧ D.nx σ H5
/-- del d[y] -/
def sDDel (td ty : TE) : TS := fun D σ H => td σ H fun x H1 => ty σ H1 fun y H2 => ∃ a kvs k, x = .ref a ∧ H2 a = some (.dK kvs) ∧ y = kV k ∧ (valV kvs k).isSome = true ∧ D.nx σ (upd H2 a (.dK (dropK kvs k)))

section
variable {X : Cx} {o i e value : Expr} {pos pos' tpos : Pos} {td ty tv : TE}
theorem pe_dget (hu : X.A.units + 1 < cLine) (ho : PE X o td) (hi : PE X i ty) (hs : NoSl i) : PE X (.Subscript o i pos) (tDGet td ty) := by
  intro pins s σ H Q I h
  refine subD_of PySem.F.slot_dict_getitem.lookup hs (thn (ho pins s σ H _ I h) fun u s1 ⟨x, H1, I1, rx, q1⟩ => thn (hi pins s1 σ H1 _ I1 q1) fun iv s2 ⟨y, H2, I2, ry, a, v, ex, g, q2⟩ => ?_)
  subst ex
  obtain rfl : u = Value.ref a := rx
  exact ⟨dict_typeIs I2 g, d_getItem hu I2 g ry fun w' s3 I3 rw' => ⟨v, H2, I3, rw', q2⟩⟩
theorem pc_din (hu : X.A.units + 1 < cLine) (hi : PE X i ty) (ho : PE X o td) : PC X .In i o (tDIn ty td) := by
  intro pins s σ H Q I h
  refine thn (hi pins s σ H _ I h) fun iv s1 ⟨y, H1, I1, ry, q1⟩ => thn (ho pins s1 σ H1 _ I1 q1) fun u s2 ⟨x, H2, I2, rx, a, ov, ex, g, q2⟩ => ?_
  subst ex
  obtain rfl : u = Value.ref a := rx
  exact d_in hu I2 g ry fun s3 I3 => ⟨.bl ov.isSome, H2, I3, rfl, q2⟩
theorem pc_dnotin (hu : X.A.units + 1 < cLine) (hi : PE X i ty) (ho : PE X o td) : PC X .NotIn i o (tDNotIn ty td) := by
  intro pins s σ H Q I h
  refine thn (hi pins s σ H _ I h) fun iv s1 ⟨y, H1, I1, ry, q1⟩ => thn (ho pins s1 σ H1 _ I1 q1) fun u s2 ⟨x, H2, I2, rx, a, ov, ex, g, q2⟩ => ?_
  subst ex
  obtain rfl : u = Value.ref a := rx
  exact d_notIn hu I2 g ry fun s3 I3 => ⟨.bl (!ov.isSome), H2, I3, rfl, q2⟩
theorem ps_dput (hu : X.A.units + 1 < cLine) (ho : PE X o td) (hi : PE X i ty) (hv : PE X value tv) (hs : swapsWith value (some (.Subscript o i pos')) pos.line X.env = pure false) :
    PS X (.Assign [.Subscript o i pos'] value pos) (sDPut td ty tv) := by
  intro pins s σ H D I h
  refine wpAny_Assign_Subscript (thn (hv pins s σ H _ I h) fun r s1 ⟨v, H1, I1, rv, q1⟩ => thn (ho pins s1 σ H1 _ I1 q1) fun u s2 ⟨x, H2, I2, rx, q2⟩ => thn (hi pins s2 σ H2 _ I2 q2) fun iv s3 ⟨y, H3, I3, ry, a, H4, ex, g, q3⟩ => ?_) hs
  subst ex
  obtain rfl : u = Value.ref a := rx
  exact d_setItem hu I3 g ry rv fun s4 I4 => ⟨σ, H4, I4, q3⟩
theorem ps_daug {op : Operator} {rd : V → V → Hp → VK → Prop} (hu : X.A.units + 1 < cLine) (ho : PE X o td) (hi : PE X i ty) (hv : PE X value tv) (hop : InOp X op rd)
    (ha : ∀ ov iv new, augStore i ov iv new = (do holding [new, ov, iv] (setItem ov iv new); release [new, ov, iv] []; pure .next)) : PS X (.AugAssign (.Subscript o i tpos) op value pos) (sDAug td ty tv rd) := by
  intro pins s σ H D I h
  refine wpAny_AugAssign_SubscriptAny (thn (ho pins s σ H _ I h) fun u s1 ⟨x, H1, I1, rx, q1⟩ => thn (hi pins s1 σ H1 _ I1 q1) fun iv s2 ⟨y, H2, I2, ry, a, v, ex, g, q2⟩ => ?_) ha
  subst ex
  obtain rfl : u = Value.ref a := rx
  refine d_getItem hu I2 g ry fun w' s3 I3 rw' => thn (hv pins s3 σ H2 _ I3 q2) fun w2 s4 ⟨y2, H3, I4, ry2, q3⟩ => thn (hop pins s4 σ H3 v y2 w' w2 _ I4 rw' ry2 q3) fun w3 s5 ⟨z, H4, I5, rz, H5, g5, q4⟩ => ?_
  exact d_setItem hu I5 g5 ry rz fun s6 I6 => ⟨σ, H5, I6, q4⟩
theorem ps_ddel (ho : PE X o td) (hi : PE X i ty) : PS X (.Delete [.Subscript o i tpos] pos) (sDDel td ty) := by
  intro pins s σ H D I h
  refine wpAny_Delete (wpAny_deleteEach_cons (wpAny_delete_Subscript (thn (ho pins s σ H _ I h) fun u s1 ⟨x, H1, I1, rx, q1⟩ => thn (hi pins s1 σ H1 _ I1 q1) fun iv s2 ⟨y, H2, I2, ry, a, kvs, k, ex, e, ey, l, q2⟩ => ?_)))
  subst ex ey
  obtain rfl : u = Value.ref a := rx
  exact d_delItem I2 e ry l fun s3 I3 => wpAny_deleteEach_nil ⟨σ, _, I3, q2⟩
end


/-! ### displays -/
theorem dt_empty {P : Program} {w : World} {H : Hp} (h : Heap) (hb : sysModules < h.objs.size) : ObjOk P w H (h.push { cls := .type "dict", data := .dict #[] }) h.objs.size (.dT []) :=
  ⟨Nat.zero_le _, beq_eq_false_iff_ne.mpr (Ne.symm (Nat.ne_of_lt hb)), [], .nil, _, #[], 0, Heap.get?_push_size _ rfl, ⟨rfl, rfl, rfl⟩, rfl, rfl, List.nodup_nil⟩
/-- {}, to be a dict of the kind that is wanted -/
def tDNewT : TE := fun _ H Q => ∀ p, H p = none → Q (.ref p) (upd H p (.dT []))
section
variable {X : Cx} {pos : Pos}
theorem pe_dnewT : PE X (.Dict [] [] pos) tDNewT := fun pins s σ H Q I h =>
  wpAny_Dict_empty ⟨.ref s.heap.objs.size, _, I.laid (a := s.heap.objs.size) (o := .dT []) (t' := s.toks) (fun _ _ q => Heap.get?_push_of_some _ q) (Nat.le_refl _) (dt_empty s.heap I.big), rfl, h _ (I.hok.fresh (Nat.le_refl _))⟩
end

/-- the pairs of a display, from the left -/
def tPairs : List (TE × TE) → St → Hp → (List (V × V) → Hp → Prop) → Prop
  | [], _, H, Q => Q [] H
  | (tk, tv) :: r, σ, H, Q => tk σ H fun x H1 => tv σ H1 fun y H2 => tPairs r σ H2 fun ps H3 => Q ((x, y) :: ps) H3
abbrev VV : List (V × V) → List (Value × Value) → Prop := Paired fun p q => RelV p.1 q.1 ∧ RelV p.2 q.2
def PPs (X : Cx) (pos : Pos) (keys : List (Option Expr)) (values : List Expr) (trs : List (TE × TE)) : Prop :=
  ∀ (pins : List (Addr × Obj)) (s : Shared) (σ : St) (H : Hp) (Q : List (V × V) → Hp → Prop), Inv X pins σ H s → tPairs trs σ H Q →
    wpAny (model X.prog X.w) X.A (evalPairs (pairTrees keys values X.env pos)) (fun vs s' => ∃ ps H', Inv X pins σ H' s' ∧ VV ps vs ∧ Q ps H') X.xe s
theorem pps_nil {X : Cx} {pos : Pos} : PPs X pos [] [] [] := fun pins s σ H Q I h => pairTrees_nil_walk ⟨[], H, I, .nil, h⟩
theorem pps_cons {X : Cx} {pos : Pos} {k v : Expr} {ks : List (Option Expr)} {vs : List Expr} {tk tv : TE} {trs : List (TE × TE)} (hk : PE X k tk) (hv : PE X v tv) (hr : PPs X pos ks vs trs) :
    PPs X pos (some k :: ks) (v :: vs) ((tk, tv) :: trs) := fun pins s σ H Q I h =>
  pairTrees_cons_walk (thn (hk pins s σ H _ I h) fun u s1 ⟨x, H1, I1, rx, q1⟩ => thn (hv pins s1 σ H1 _ I1 q1) fun w2 s2 ⟨y, H2, I2, ry, q2⟩ =>
    thn (hr pins s2 σ H2 _ I2 q2) fun ws s3 ⟨ps, H3, I3, rel, q3⟩ => ⟨(x, y) :: ps, H3, I3, .cons ⟨rx, ry⟩ rel, q3⟩)

def mergeK (kvs more : List (Key × V)) : List (Key × V) := more.foldl (fun acc kv => putK acc kv.1 kv.2) kvs
theorem KV.merge : ∀ {more : List (Key × V)} {rs : List (Key × Value)} {kvs : List (Key × V)} {vs : List (Key × Value)}, KV more rs → KV kvs vs → KV (mergeK kvs more) (merged vs rs) := by
  intro more rs kvs vs r
  unfold KV at r
  induction r generalizing kvs vs with
  | nil => intro q; exact q
  | @cons p q ps qs h t ih =>
    intro r0
    have e : KV (putK kvs p.1 p.2) (stored vs q.1 q.2) := by
      have := r0.put p.1 h.2
      rw [← h.1]; exact this
    exact ih e
theorem length_mergeK : ∀ (more kvs : List (Key × V)), (mergeK kvs more).length ≤ kvs.length + more.length
  | [], kvs => by show kvs.length ≤ kvs.length + 0; omega
  | p :: r, kvs => by
    have h1 := length_mergeK r (putK kvs p.1 p.2)
    have h2 := length_putK kvs p.1 p.2
    show (mergeK (putK kvs p.1 p.2) r).length ≤ _
    rw [List.length_cons]; omega
theorem carries_of {P : Program} {w : World} : ∀ {kvs : List (Key × V)} {ws : List (Value × Value)}, VV (kvs.map fun kv => (kV kv.1, kv.2)) ws → ∃ rs, Carries (mixKind P w) ws rs ∧ KV kvs rs
  | [], _, r => by rw [List.map_nil] at r; cases r; exact ⟨[], True.intro, .nil⟩
  | p :: kvs, _, r => by
    rw [List.map_cons] at r
    cases r with
    | @cons a b as bs h t =>
      obtain ⟨rs, c, q⟩ := carries_of (P := P) (w := w) t
      obtain ⟨b1, b2⟩ := b
      exact ⟨(p.1, b2) :: rs, ⟨kV_is h.1, rfl, c⟩, .cons ⟨rfl, h.2⟩ q⟩
/-- {k: v, ..} with keys ints and texts; the new dict stands empty while the pairs are made -/
def tDisp (trs : List (TE × TE)) : TE := fun σ H Q => ∀ p, H p = none → tPairs trs σ (upd H p (.dK [])) fun ps H2 => H2 p = some (.dK []) ∧ ∃ kvs : List (Key × V), ps = kvs.map (fun kv => (kV kv.1, kv.2)) ∧ kvs.length ≤ 15 ∧ Q (.ref p) (upd H2 p (.dK (mergeK [] kvs)))
theorem pe_disp {X : Cx} {pos : Pos} {keys : List (Option Expr)} {values : List Expr} {trs : List (TE × TE)} (h : PPs X pos keys values trs) (hall : keys.all (·.isSome) = true) (hl : keys.length = values.length) (h0 : keys ≠ [])
    (h15 : keys.length ≤ 15) : PE X (.Dict keys values pos) (tDisp trs) := by
  intro pins s σ H Q I q
  have hn := I.hok.fresh (Nat.le_refl s.heap.objs.size)
  have I1 := I.laid (a := s.heap.objs.size) (o := .dK []) (h' := s.heap.push { cls := .type "dict", data := .dict #[] }) (t' := s.toks) (fun _ _ q => Heap.get?_push_of_some _ q) (Nat.le_refl _) (dk_empty s.heap I.big)
  refine wpAny_Dict_walk (knd := mixKind X.prog X.w) hall hl h0 h15 (thn (h pins _ σ _ _ I1 (q _ hn)) fun ws s2 ⟨ps, H2, I2, rel, e, kvs, ep, lk, q2⟩ => ?_)
  subst ep
  obtain ⟨rs, c, rk⟩ := carries_of (P := X.prog) (w := X.w) rel
  obtain ⟨z, hd, vs0, r0, dd⟩ := dk_of I2.hok e
  cases r0
  refine ⟨rs, c, dd, fun h' dd' hs => ⟨.ref s.heap.objs.size, _, ?_, rfl, q2⟩⟩
  have hz : (mergeK [] kvs).length ≤ sizeLine := by
    have h1 := length_mergeK kvs []
    rw [List.length_nil] at h1
    rw [sizeLine_eq]; omega
  have he : ∃ q, h'.get? s.heap.objs.size = some q := let ⟨q, _, _, hq, _⟩ := dd'; ⟨q, hq⟩
  exact d_write I2 (by rw [e]; exact True.intro) hs he (dk_new hz hd (rk.merge .nil) dd')


/-! ### methods -/
/-- a method call o.m(e) of a built-in, with one argument: what must be seen of the text -/
structure M1 (X : Cx) (o : Expr) (m : Str) (apos : Pos) (e : Expr) (cpos : Pos) : Prop where
  base : attributeBase o m X.env (eval o X.env) = eval o X.env
  few : ((backTo cpos (starEach [e] X.env)).all (fun x => !x.1) && (backToKw cpos (keywordEach [] X.env)).all (fun x => x.1.isSome)
    && decide (([e] : List Expr).length + ([] : List Keyword).length + (if ([] : List Keyword).isEmpty then 0 else 1) < 30)) = true
  line : (apos.endLine == cpos.line) = true
  trees : backTo cpos (starEach [e] X.env) = [(false, eval e X.env)]
structure M2 (X : Cx) (o : Expr) (m : Str) (apos : Pos) (e f : Expr) (cpos : Pos) : Prop where
  base : attributeBase o m X.env (eval o X.env) = eval o X.env
  few : ((backTo cpos (starEach [e, f] X.env)).all (fun x => !x.1) && (backToKw cpos (keywordEach [] X.env)).all (fun x => x.1.isSome)
    && decide (([e, f] : List Expr).length + ([] : List Keyword).length + (if ([] : List Keyword).isEmpty then 0 else 1) < 30)) = true
  line : (apos.endLine == cpos.line) = true
  trees : backTo cpos (starEach [e, f] X.env) = [(false, eval e X.env), (false, eval f X.env)]

/-- a is a dict, whatever its keys -/
def IsD (H : Hp) (a : Addr) : Prop := (∃ kvs, Rd H a (.dK kvs)) ∨ ∃ kvs, Rd H a (.dT kvs)
theorem isD_at {X : Cx} {pins : List (Addr × Obj)} {σ : St} {H : Hp} {s : Shared} {a : Addr} (I : Inv X pins σ H s) (d : IsD H a) :
    s.TypeIs (.ref a) "dict" ∧ (∀ b, Value.ref a = .ref b → ∃ ob, s.heap.get? b = some ob ∧ ob.dict = none) ∧ (a == sysModules) = false := by
  rcases d with ⟨kvs, e⟩ | ⟨kvs, e⟩
  · obtain ⟨_, hd, vs, _, dd⟩ := dk_rd I.hok e
    refine ⟨dd.typeIs, fun b q => ?_, hd⟩
    cases q
    obtain ⟨ob, _, _, h1, h2, _⟩ := dd
    exact ⟨ob, h1, h2.2.1⟩
  · obtain ⟨_, hd, xs, _, dd⟩ := dt_rd I.hok e
    refine ⟨dd.typeIs, fun b q => ?_, hd⟩
    cases q
    obtain ⟨ob, _, _, h1, h2, _⟩ := dd
    exact ⟨ob, h1, h2.2.1⟩

section
variable {X : Cx} {pins : List (Addr × Obj)} {σ : St} {H : Hp} {s : Shared} {a : Addr} {y d : V} {u r : Value} {o : Option V} {A : Around} {E : Value → Shared → Prop}
/-- d.get(y) -/
theorem d_get1 {Q : Value → Shared → Prop} (hu : A.units + 1 < cLine) (I : Inv X pins σ H s) (g : DGet H a y o) (ry : RelV y u) (h : ∀ w' s', Inv X pins σ H s' → RelV (o.getD .non) w' → Q w' s') :
    wpAny (model X.prog X.w) A (call (.builtin "dict.get") [.ref a, u]) Q E s := by
  rcases g with ⟨kvs, k, e, ey, l⟩ | ⟨kvs, k, b, e, ey, eb, l⟩
  · subst ey
    obtain ⟨z, hd, vs, rel, dd⟩ := dk_rd I.hok e
    refine call_meetsIn PySem.F.slot_dict_get dd.typeIs PySem.F.entry_dict_get (PySem.F.args_dict_get_2 _ _) (meets_dict_get (mixKind X.prog X.w) a (kV_is ry) hd) ⟨_, dd.mapOf, h _ _ (I.tok _) ?_⟩
    rw [l]
    exact (rel.val k).getD rfl
  · subst ey
    cases (show u = Value.ref b from ry)
    obtain ⟨z, hd, xs, rel, dd⟩ := dt_rd I.hok e
    refine call_meetsIn PySem.F.slot_dict_get dd.typeIs PySem.F.entry_dict_get (PySem.F.args_dict_get_2 _ _) (meetsH_dict_get (tupleKind (mixKind X.prog X.w)) a b hd) ⟨tupleKind_room_in1 hu, k, xs, key_of I.hok eb, dd, h _ _ (I.tok _) ?_⟩
    rw [l]
    exact (rel.val k).getD rfl
/-- d.get(y, x) -/
theorem d_get2 {Q : Value → Shared → Prop} (hu : A.units + 1 < cLine) (I : Inv X pins σ H s) (g : DGet H a y o) (ry : RelV y u) (rd : RelV d r) (h : ∀ w' s', Inv X pins σ H s' → RelV (o.getD d) w' → Q w' s') :
    wpAny (model X.prog X.w) A (call (.builtin "dict.get") [.ref a, u, r]) Q E s := by
  rcases g with ⟨kvs, k, e, ey, l⟩ | ⟨kvs, k, b, e, ey, eb, l⟩
  · subst ey
    obtain ⟨z, hd, vs, rel, dd⟩ := dk_rd I.hok e
    refine call_meetsIn PySem.F.slot_dict_get dd.typeIs PySem.F.entry_dict_get (PySem.F.args_dict_get_3 _ _ _) (meets_dict_get_default (mixKind X.prog X.w) a (kV_is ry) hd r) ⟨_, dd.mapOf, h _ _ (I.tok _) ?_⟩
    rw [l]
    exact (rel.val k).getD rd
  · subst ey
    cases (show u = Value.ref b from ry)
    obtain ⟨z, hd, xs, rel, dd⟩ := dt_rd I.hok e
    refine call_meetsIn PySem.F.slot_dict_get dd.typeIs PySem.F.entry_dict_get (PySem.F.args_dict_get_3 _ _ _) (meetsH_dict_get_default (tupleKind (mixKind X.prog X.w)) a b hd r) ⟨tupleKind_room_in1 hu, k, xs, key_of I.hok eb, dd, h _ _ (I.tok _) ?_⟩
    rw [l]
    exact (rel.val k).getD rd
end

def tDGet1 (td ty : TE) : TE := fun σ H Q => td σ H fun x H1 => ∃ a, x = .ref a ∧ IsD H1 a ∧ ty σ H1 fun y H2 => ∃ o, DGet H2 a y o ∧ Q (o.getD .non) H2
def tDGet2 (td ty tx : TE) : TE := fun σ H Q => td σ H fun x H1 => ∃ a, x = .ref a ∧ IsD H1 a ∧ ty σ H1 fun y H2 => tx σ H2 fun z H3 => ∃ o, DGet H3 a y o ∧ Q (o.getD z) H3
/-- d.pop(k): there; d.pop(k, x): there or not -/
def tDPop1 (td ty : TE) : TE := fun σ H Q => td σ H fun x H1 => ∃ a, x = .ref a ∧ IsD H1 a ∧ ty σ H1 fun y H2 => ∃ kvs k v, H2 a = some (.dK kvs) ∧ y = kV k ∧ valV kvs k = some v ∧ Q v (upd H2 a (.dK (dropK kvs k)))
def tDPop2 (td ty tx : TE) : TE := fun σ H Q => td σ H fun x H1 => ∃ a, x = .ref a ∧ IsD H1 a ∧ ty σ H1 fun y H2 => tx σ H2 fun z H3 => ∃ kvs k, H3 a = some (.dK kvs) ∧ y = kV k ∧
  (∀ v, valV kvs k = some v → Q v (upd H3 a (.dK (dropK kvs k)))) ∧ (valV kvs k = none → Q z H3)
section
variable {X : Cx} {o e f : Expr} {apos cpos : Pos} {td ty tx : TE}
theorem pe_dget1 (hu : X.A.units + 1 < cLine) (ho : PE X o td) (he : PE X e ty) (m : M1 X o "get" apos e cpos) : PE X (.Call (.Attribute o "get" apos) [e] [] cpos) (tDGet1 td ty) := by
  intro pins s σ H Q I h
  refine wpAny_Call_method m.base m.few m.line PySem.F.plainAttrs_dict PySem.F.slot_dict_get PySem.F.type_dict_get (thn (ho pins s σ H _ I h) fun u s1 ⟨x, H1, I1, rx, a, ex, d, q1⟩ => ?_)
  subst ex
  obtain rfl : u = Value.ref a := rx
  obtain ⟨t1, t2, _⟩ := isD_at I1 d
  refine ⟨t1, t2, ?_⟩
  rw [m.trees]
  refine Calls.callWith_builtin rfl (Calls.evalArgs_plain (Calls.spliced_cons (thn (he pins s1 σ H1 _ I1 q1) fun iv s2 ⟨y, H2, I2, ry, ov, g, q2⟩ => Calls.spliced_nil ?_)))
  exact d_get1 hu I2 g ry fun w' s3 I3 rw' => ⟨_, H2, I3, rw', q2⟩
theorem pe_dget2 (hu : X.A.units + 1 < cLine) (ho : PE X o td) (he : PE X e ty) (hf : PE X f tx) (m : M2 X o "get" apos e f cpos) : PE X (.Call (.Attribute o "get" apos) [e, f] [] cpos) (tDGet2 td ty tx) := by
  intro pins s σ H Q I h
  refine wpAny_Call_method m.base m.few m.line PySem.F.plainAttrs_dict PySem.F.slot_dict_get PySem.F.type_dict_get (thn (ho pins s σ H _ I h) fun u s1 ⟨x, H1, I1, rx, a, ex, d, q1⟩ => ?_)
  subst ex
  obtain rfl : u = Value.ref a := rx
  obtain ⟨t1, t2, _⟩ := isD_at I1 d
  refine ⟨t1, t2, ?_⟩
  rw [m.trees]
  refine Calls.callWith_builtin rfl (Calls.evalArgs_plain (Calls.spliced_cons (thn (he pins s1 σ H1 _ I1 q1) fun iv s2 ⟨y, H2, I2, ry, q2⟩ =>
    Calls.spliced_cons (thn (hf pins s2 σ H2 _ I2 q2) fun fv s3 ⟨z, H3, I3, rz, ov, g, q3⟩ => Calls.spliced_nil ?_))))
  exact d_get2 hu I3 g ry rz fun w' s4 I4 rw' => ⟨_, H3, I4, rw', q3⟩
theorem pe_dpop1 (ho : PE X o td) (he : PE X e ty) (m : M1 X o "pop" apos e cpos) : PE X (.Call (.Attribute o "pop" apos) [e] [] cpos) (tDPop1 td ty) := by
  intro pins s σ H Q I h
  refine wpAny_Call_method m.base m.few m.line PySem.F.plainAttrs_dict PySem.F.slot_dict_pop PySem.F.type_dict_pop (thn (ho pins s σ H _ I h) fun u s1 ⟨x, H1, I1, rx, a, ex, d, q1⟩ => ?_)
  subst ex
  obtain rfl : u = Value.ref a := rx
  obtain ⟨t1, t2, _⟩ := isD_at I1 d
  refine ⟨t1, t2, ?_⟩
  rw [m.trees]
  refine Calls.callWith_builtin rfl (Calls.evalArgs_plain (Calls.spliced_cons (thn (he pins s1 σ H1 _ I1 q1) fun iv s2 ⟨y, H2, I2, ry, kvs, k, v, ea, ey, l, q2⟩ => Calls.spliced_nil ?_)))
  subst ey
  exact d_pop I2 ea ry l (.inl rfl) fun w' s3 I3 rw' => ⟨v, _, I3, rw', q2⟩
theorem pe_dpop2 (ho : PE X o td) (he : PE X e ty) (hf : PE X f tx) (m : M2 X o "pop" apos e f cpos) : PE X (.Call (.Attribute o "pop" apos) [e, f] [] cpos) (tDPop2 td ty tx) := by
  intro pins s σ H Q I h
  refine wpAny_Call_method m.base m.few m.line PySem.F.plainAttrs_dict PySem.F.slot_dict_pop PySem.F.type_dict_pop (thn (ho pins s σ H _ I h) fun u s1 ⟨x, H1, I1, rx, a, ex, d, q1⟩ => ?_)
  subst ex
  obtain rfl : u = Value.ref a := rx
  obtain ⟨t1, t2, _⟩ := isD_at I1 d
  refine ⟨t1, t2, ?_⟩
  rw [m.trees]
  refine Calls.callWith_builtin rfl (Calls.evalArgs_plain (Calls.spliced_cons (thn (he pins s1 σ H1 _ I1 q1) fun iv s2 ⟨y, H2, I2, ry, q2⟩ =>
    Calls.spliced_cons (thn (hf pins s2 σ H2 _ I2 q2) fun fv s3 ⟨z, H3, I3, rz, kvs, k, ea, ey, q3, q4⟩ => Calls.spliced_nil ?_))))
  subst ey
  cases l : valV kvs k with
  | some v => exact d_pop I3 ea ry l (.inr ⟨fv, rfl⟩) fun w' s4 I4 rw' => ⟨v, _, I4, rw', q3 v l⟩
  | none => exact d_popD I3 ea ry l fun s4 I4 => ⟨z, H3, I4, rz, q4 l⟩
end

/-! ### dict(d): a copy -/
section
variable {X : Cx} {pins : List (Addr × Obj)} {σ : St} {H : Hp} {s : Shared} {a : Addr} {kvs : List (Key × V)} {A : Around} {E : Value → Shared → Prop}
theorem d_copyOf {Q : Value → Shared → Prop} (I : Inv X pins σ H s) (e : Rd H a (.dK kvs)) (h : ∀ p s', H p = none → Inv X pins σ (upd H p (.dK kvs)) s' → Q (.ref p) s') : wpAny (model X.prog X.w) A (call (.type "dict") [.ref a]) Q E s := by
  obtain ⟨z, hd, vs, rel, dd⟩ := dk_rd I.hok e
  refine kt_call_dict hd dd (by rw [← rel.length]; exact z) fun h' dd' hs => ?_
  refine h _ _ (I.hok.fresh (Nat.le_refl _)) (I.laid (a := s.heap.objs.size) (o := .dK kvs) (t' := s.toks) (fun b q hq => ?_) (Nat.le_refl _) (dk_new z (beq_eq_false_iff_ne.mpr (Ne.symm (Nat.ne_of_lt I.big))) rel dd'))
  exact (hs.2 b (Nat.ne_of_lt (Heap.lt_size hq))).trans (Heap.get?_push_of_some _ hq)
end


section
variable {X : Cx} {pins : List (Addr × Obj)} {σ : St} {H : Hp} {s : Shared} {a : Addr} {y : V} {u : Value} {A : Around} {E : Value → Shared → Prop}
/-- d[y], not there: a KeyError -/
theorem d_missing {Q : Value → Shared → Prop} (hu : A.units + 1 < cLine) (hh : A.handled = none) (I : Inv X pins σ H s) (g : DGet H a y none) (ry : RelV y u)
    (h : ∀ h' e t', Heap.NewExc s.heap h' e "KeyError" → E (.ref e) { s with heap := h', toks := t' }) : wpAny (model X.prog X.w) A (getItem (.ref a) u) Q E s := by
  rcases g with ⟨kvs, k, e, ey, l⟩ | ⟨kvs, k, b, e, ey, eb, l⟩
  · subst ey
    obtain ⟨z, hd, vs, rel, dd⟩ := dk_rd I.hok e
    have hn : valueAt vs k = none := RelO.none_of (by rw [l]; exact rel.val k)
    exact wpAny_getItem_missing_of (kV_is ry) hd hh dd.mapOf hn fun h' ex ne => h h' ex _ ne
  · subst ey
    cases (show u = Value.ref b from ry)
    obtain ⟨z, hd, xs, rel, dd⟩ := dt_rd I.hok e
    have hn : (atKey xs k).map (·.2) = none := RelO.none_of (by rw [l]; exact rel.val k)
    exact wpAny_getItem_missing_heap (tupleKind_room_in1 hu) (key_of I.hok eb) hd hh dd (Option.map_eq_none_iff.mp hn) fun h' ex ne => h h' ex _ ne
end
end L2

namespace L2
open PySem PySem.Spec PyProof.Rows
section
variable {X : Cx}
/-- len of a dict -/
theorem call_lenD : CallR X (.builtin "len") (fun xs H Q => ∃ a kvs, xs = [V.ref a] ∧ H a = some (.dK kvs) ∧ Q (.int kvs.length) H) := by
  intro pins s σ H xs us Q I r h
  obtain ⟨a, kvs, rfl, ha, q⟩ := h
  obtain ⟨u, rfl, ru⟩ := vals1 r
  cases ru
  exact d_len I (.inl ha) fun t s' I' => ⟨.int kvs.length, H, I', ⟨t, rfl⟩, q⟩
end
/-! ### a dict's pairs: keys that differ -/
section
variable {κ : Type} [DecidableEq κ]
theorem valV_not {kvs : List (κ × V)} {k : κ} (h : valV kvs k = none) : ¬ k ∈ kvs.map (·.1) := by
  intro m
  obtain ⟨p, hp, e⟩ := List.mem_map.mp m
  have q : (kvs.any fun kv => decide (kv.1 = k)) = true := List.any_eq_true.mpr ⟨p, hp, decide_eq_true e⟩
  rw [valV_any, h] at q
  exact absurd q (by simp)
theorem valV_in {kvs : List (κ × V)} {k : κ} {v : V} (h : valV kvs k = some v) : k ∈ kvs.map (·.1) := by
  have q : (kvs.any fun kv => decide (kv.1 = k)) = true := by
    rw [valV_any, h]
    all_goals rfl
  obtain ⟨p, hp, e⟩ := List.any_eq_true.mp q
  exact List.mem_map.mpr ⟨p, hp, of_decide_eq_true e⟩
theorem nd_snoc : ∀ {l : List κ} {k : κ}, l.Nodup → ¬ k ∈ l → (l ++ [k]).Nodup
  | [], k, _, _ => by simp
  | a :: r, k, h, hk => by
    obtain ⟨h1, h2⟩ := List.nodup_cons.mp h
    show (a :: (r ++ [k])).Nodup
    refine List.nodup_cons.mpr ⟨fun m => ?_, nd_snoc h2 fun m => hk (List.mem_cons.mpr (Or.inr m))⟩
    rcases List.mem_append.mp m with q | q
    · exact h1 q
    · exact hk (List.mem_cons.mpr (Or.inl (List.mem_singleton.mp q).symm))
theorem nd_putK {kvs : List (κ × V)} {k : κ} (v : V) (hn : (kvs.map (·.1)).Nodup) (h : valV kvs k = none) : ((putK kvs k v).map (·.1)).Nodup := by
  rw [putK_new v h, List.map_append]
  exact nd_snoc hn (valV_not h)
theorem dropK_pos {p : κ × V} {r : List (κ × V)} {k : κ} (e : p.1 = k) : dropK (p :: r) k = dropK r k := by
  unfold dropK
  rw [List.filter_cons, if_neg (by simp [e])]
theorem dropK_neg {p : κ × V} {r : List (κ × V)} {k : κ} (e : ¬ p.1 = k) : dropK (p :: r) k = p :: dropK r k := by
  unfold dropK
  rw [List.filter_cons, if_pos (by simp [e])]
theorem dropK_no : ∀ {kvs : List (κ × V)} {k : κ}, ¬ k ∈ kvs.map (·.1) → dropK kvs k = kvs
  | [], _, _ => rfl
  | p :: r, k, h => by
    have h' : ¬ k ∈ r.map (·.1) := fun m => by
      obtain ⟨q, hq, e⟩ := List.mem_map.mp m
      exact h (List.mem_map.mpr ⟨q, List.mem_cons.mpr (Or.inr hq), e⟩)
    rw [dropK_neg fun e => h (List.mem_map.mpr ⟨p, List.mem_cons.mpr (Or.inl rfl), e⟩), dropK_no h']
theorem dropK_mem {kvs : List (κ × V)} {k : κ} {p : κ × V} (h : p ∈ dropK kvs k) : p ∈ kvs := (List.mem_filter.mp h).1
theorem nd_dropK : ∀ {kvs : List (κ × V)} {k : κ}, (kvs.map (·.1)).Nodup → ((dropK kvs k).map (·.1)).Nodup
  | [], _, _ => List.nodup_nil
  | p :: r, k, h => by
    have h : (p.1 :: r.map (·.1)).Nodup := h
    obtain ⟨h1, h2⟩ := List.nodup_cons.mp h
    by_cases e : p.1 = k
    · rw [dropK_pos e]
      exact nd_dropK h2
    · rw [dropK_neg e]
      show (p.1 :: (dropK r k).map (·.1)).Nodup
      refine List.nodup_cons.mpr ⟨fun m => h1 ?_, nd_dropK h2⟩
      obtain ⟨q, hq, eq⟩ := List.mem_map.mp m
      exact List.mem_map.mpr ⟨q, dropK_mem hq, eq⟩
theorem dropK_len : ∀ {kvs : List (κ × V)} {k : κ}, (kvs.map (·.1)).Nodup → k ∈ kvs.map (·.1) → (dropK kvs k).length + 1 = kvs.length
  | [], _, _, m => by simp at m
  | p :: r, k, h, m => by
    have h : (p.1 :: r.map (·.1)).Nodup := h
    have m : k = p.1 ∨ k ∈ r.map (·.1) := List.mem_cons.mp m
    obtain ⟨h1, h2⟩ := List.nodup_cons.mp h
    by_cases e : p.1 = k
    · subst e
      rw [dropK_pos rfl, dropK_no h1]
      all_goals rfl
    · have m' : k ∈ r.map (·.1) := m.resolve_left fun z => e z.symm
      have q := dropK_len h2 m'
      rw [dropK_neg e, List.length_cons, List.length_cons]
      omega
end
end L2

set_option Elab.async false
set_option linter.all false
set_option maxRecDepth 100000
set_option maxHeartbeats 4000000
namespace L2
open PySem PySem.Spec PyProof.Rows PySem.SeqAt
/-! ### dicts whose keys are ints or None -/
def nIs : Option Int → Value → Bool
  | Option.none, Value.none => true
  | some k, v => Value.isInt k v
  | _, _ => false
def nH : Option Int → Int
  | Option.none => 0xFCA86420
  | some k => hashInt k
theorem nIs_shape {k : Option Int} {v : Value} (h : nIs k v = true) : (k = Option.none ∧ v = Value.none) ∨ ∃ i t, k = some i ∧ v = Value.int i t := by
  cases k with
  | none =>
    cases v <;> first | exact .inl ⟨rfl, rfl⟩ | cases h
  | some i =>
    obtain ⟨t, e⟩ := Value.isInt_shape (k := i) (v := v) h
    exact .inr ⟨i, t, rfl, e⟩
section
variable {prog : Program} {w : World} {A : Around} {E : Value → Shared → Prop} {s : Shared}
theorem pyHash_none {Q : Int → Shared → Prop} (h : Q 0xFCA86420 { s with toks := s.toks + 1 }) : wpAny (model prog w) A (pyHash .none) Q E s := by
  have hT : s.TypeIs .none "NoneType" := rfl
  unfold pyHash
  have hv : [Value.none].any Value.onHeap = false := rfl
  show wpAny _ _ (pyHashByItsType .none) _ _ _
  unfold pyHashByItsType
  refine wpAny_bind ?_
  rw [cRoomFor, if_neg (by rw [hv]; exact Bool.false_ne_true)]
  refine wpAny_pure ?_
  refine wpAny_bind (wpAny_specialOf hT F.slot_NoneType_hash.lookup ?_)
  show wpAny _ _ (if (some (Value.builtin "NoneType.__hash__") == some Value.none) = true then _ else _) Q E s
  rw [if_neg (by rw [beq_builtin_none]; exact Bool.false_ne_true)]
  refine wpAny_bind (wpAny_specialOf hT F.slot_NoneType_hash.lookup ?_)
  show wpAny _ _ (callSpecialIfBoundUnlessNone? .none "__hash__" _ >>= _) Q E s
  refine wpAny_bind (wpAny_callSpecialIfBoundUnlessNone?_slot hT F.slot_NoneType_hash
    (wpAny_call_entry F.slot_NoneType_hash hT F.entry_NoneType_hash
      (show wpAny _ _ (do ret (← mkInt 0xFCA86420)) _ _ s from wpAny_ret_mkInt ?_) (F.args_NoneType_hash_1 _)))
  show wpAny _ _ (if (decide (-(2 : Int) ^ 63 ≤ 0xFCA86420) && decide ((0xFCA86420 : Int) < 2 ^ 63)) = true then _ else _) Q E _
  rw [if_pos (by decide)]
  exact wpAny_pure h
end
def nKind (prog : Program) (w : World) : PySem.KeyKind prog w (Option Int) where
  is := nIs
  hash := nH
  inj := fun v a b ha hb => by
    rcases nIs_shape ha with ⟨rfl, rfl⟩ | ⟨i, t, rfl, rfl⟩
    · rcases nIs_shape hb with ⟨rfl, _⟩ | ⟨j, u, rfl, e⟩
      · rfl
      · cases e
    · rcases nIs_shape hb with ⟨rfl, e⟩ | ⟨j, u, rfl, e⟩
      · cases e
      · injection e with e1 _; rw [e1]
  byValue := fun k v h => by
    rcases nIs_shape h with ⟨rfl, rfl⟩ | ⟨i, t, rfl, rfl⟩ <;> rfl
  pyHash := fun hv h => by
    rcases nIs_shape hv with ⟨rfl, rfl⟩ | ⟨i, t, rfl, rfl⟩
    · exact pyHash_none h
    · exact wpAny_pyHash_int h
  eqBool := fun {A E s a b u v Q} hu hv h => by
    rcases nIs_shape hu with ⟨rfl, rfl⟩ | ⟨i, t, rfl, rfl⟩
    · rcases nIs_shape hv with ⟨rfl, rfl⟩ | ⟨j, u, rfl, rfl⟩
      · exact EqAt.same _ _ _ _ _ (by simpa using h)
      · exact EqAt.none_int j u _ _ _ _ (by simpa using h)
    · rcases nIs_shape hv with ⟨rfl, rfl⟩ | ⟨j, u, rfl, rfl⟩
      · exact EqAt.int_none i t _ _ _ _ (by simpa using h)
      · have e : decide (some i = some j) = (i == j) := by
          by_cases z : i = j
          · subst z; simp
          · rw [decide_eq_false (fun q => z (Option.some.inj q))]; exact (beq_eq_false_iff_ne.mpr z).symm
        rw [e] at h
        exact wpAny_eqBool_int h
  «strs» := fun k x t v h => by
    rcases nIs_shape h with ⟨rfl, e⟩ | ⟨i, u, rfl, e⟩
    · cases e
    · cases e
end L2

set_option Elab.async false
set_option linter.all false
set_option maxRecDepth 100000
set_option maxHeartbeats 4000000
namespace PySem
open Sem (wp)
theorem lk_list_keys : typeLookup (.type "list") "keys" = pure none := by rw [typeLookup_type, builtinLookup_eq_fast]; kernel_rfl
section
variable {prog : Program} {w : World} {A : Around} {E : Value → Shared → Prop} {s : Shared}
/-- a list has no keys: an AttributeError is made, and caught -/
theorem keys_miss_list {a : Addr} {o : Obj} {xs : Array Value} {k : Nat} {Q : Option Value → Shared → Prop} (hx : s.heap.get? a = some o) (hc : o.cls = .type "list") (hdat : o.data = .seq xs k) (hd : o.dict = none) (hA : A.handled = none)
    (h : ∀ h' tk, (∀ b o, s.heap.get? b = some o → h'.get? b = some o) → Q none { s with heap := h', toks := tk }) : wpAny (model prog w) A (getAttr? (.ref a) "keys") Q E s := by
  obtain ⟨c, dct, dat, sl⟩ := o
  simp only at hc hdat hd
  subst hc hdat hd
  obtain ⟨hp, g, d, tk, os⟩ := s
  have hT : ∀ tk', (⟨hp, g, d, tk', os⟩ : Shared).TypeIs (.ref a) "list" := fun _ => ⟨_, hx, rfl⟩
  have f1 := sub_AttributeError
  have f3 := F.slot_list_getattribute.lookup
  have f4 := F.slot_list_getattribute.bind (.ref a)
  have f5 := am_list_getattr_none
  have hm := lk_list_keys
  unfold getAttr? getAttrBy? getAttrBy
  repeat (any_goals (first | assumption | exact hT _ | ((with_reducible show wpAny _ _ (call (Value.builtin "list.__getattribute__") _ _) _ _ _); refine call_meets F.slot_list_getattribute (hT _) am_entry_list_getattribute (F.args_list_getattribute_2 _ _) (meets_getattribute_miss_list a xs k sl "keys" _ hm (by decide +kernel) (by size_fits)) ⟨hx, hA, fun h' tk' e hx' => ?_⟩) | wp_step))
  obtain ⟨t', u', he⟩ := hx'.there
  have hTe : ∀ tk', (⟨h', g, d, tk', os⟩ : Shared).TypeIs (.ref e) "AttributeError" := fun _ => ⟨_, he, rfl⟩
  show wpAny _ _ (getattributeRaised _ _ _ _ _ _ _) _ _ _
  unfold getattributeRaised
  repeat (any_goals (first | assumption | exact hTe _ | wp_step))
  exact h _ _ hx'.keeps
end
end PySem

set_option Elab.async false
set_option linter.all false
set_option maxRecDepth 100000
set_option maxHeartbeats 4000000
namespace DictL
open PySem PySem.Spec PyProof.Rows
theorem entry_loop : entryFor table "dict.update.loop" = some Builtin.«dict.update.loop» := entryFor_of_tree (by kernel_rfl)
theorem plain_loop : plainId "dict.update.loop" = true := by decide +kernel
section
variable {prog : Program} {w : World} {K : Type} [DecidableEq K] {knd : KeyKind prog w K} {A : Around} {R : Result → Shared → Prop} {I : Addr} {fp wr : List Addr} {G : Array GenState → Array GenState → Prop} {n : Nat} {P : Nat → Value → Prop} {St : Nat → Shared → Prop}
def upTo (kv : Nat → K × Value) (i : Nat) : List (K × Value) := ((List.range i).map kv).foldl (fun acc p => stored acc p.1 p.2) []
theorem upTo_succ (kv : Nat → K × Value) (i : Nat) : upTo kv (i + 1) = stored (upTo kv i) (kv i).1 (kv i).2 := by
  unfold upTo; rw [List.range_succ, List.map_append, List.foldl_append]; rfl
theorem stored_len (kvs : List (K × Value)) (k : K) (v : Value) : (stored kvs k v).length ≤ kvs.length + 1 := by
  unfold stored
  split
  · rw [List.length_map]; omega
  · rw [List.length_append]; exact Nat.le_refl _
theorem upTo_len (kv : Nat → K × Value) : ∀ i, (upTo kv i).length ≤ i
  | 0 => Nat.le_refl _
  | i + 1 => by
    rw [upTo_succ]
    have := upTo_len kv i
    have := stored_len (upTo kv i) (kv i).1 (kv i).2
    omega
/-- a pair stands at b -/
def PairAt (knd : KeyKind prog w K) (h : Heap) (b : Addr) (p : K × Value) : Prop := ∃ o key m, h.get? b = some o ∧ o.cls = .type "tuple" ∧ o.data = .seq #[key, p.2] m ∧ knd.is p.1 key = true
theorem loop (W : WalksS prog w A.in1 I fp wr G n P St) (D : Addr) (hDf : D ∉ fp) (kv : Nat → K × Value) (hb : n ≤ 1000) :
    ∀ (k i : Nat) (s : Shared), n - i = k → i ≤ n → St i s → (∀ (j : Nat) v, P j v → ∃ b, v = .ref b ∧ PairAt knd s.heap b (kv j) ∧ b ∉ D :: wr) →
      s.heap.DictOf knd D (upTo kv i) →
      (∀ s', Moved (D :: wr) G s s' → s'.heap.DictOf knd D (upTo kv n) → R (.ok (.ret .none)) s') →
      codeAny (model prog w) A (.builtin "dict.update.loop" ⟨[.ref D, .ref I, rawInt i, .none], []⟩) R s := by
  have hDw : D ∉ wr := fun h => hDf (W.sub _ h)
  have hsub : ∀ b ∈ wr, b ∈ D :: wr := fun b hb => List.mem_cons_of_mem _ hb
  have keepD : ∀ {s s' : Shared} {kvs : List (K × Value)}, (∀ b o, b ∉ wr → s.heap.get? b = some o → s'.heap.get? b = some o) → s.heap.DictOf knd D kvs → s'.heap.DictOf knd D kvs := by
    intro s s' kvs hk hS
    obtain ⟨o, es, ep, ho, r⟩ := hS
    exact ⟨o, es, ep, hk D o hDw ho, r⟩
  intro k
  induction k with
  | zero =>
    intro i s hk hi hst hv hS hR
    have hin : i = n := by omega
    subst hin
    refine codeAny_builtin entry_loop ?_
    rw [Around.under_plainId plain_loop _]
    show wpAny _ A.in1 (pyNext (.ref I) >>= _) _ _ s
    refine wpAny_bind (W.done s _ _ hst fun s' hm => ?_)
    show wpAny _ A.in1 (Builtin.Dict.addKeywords D [] >>= _) _ _ s'
    exact wpAny_bind (wpAny_pure (wpAny_pure (hR s' (hm.mono hsub) (keepD hm.heap hS))))
  | succ k ih =>
    intro i s hk hi hst hv hS hR
    have hlt : i < n := by omega
    refine codeAny_builtin entry_loop ?_
    rw [Around.under_plainId plain_loop _]
    show wpAny _ A.in1 (pyNext (.ref I) >>= _) _ _ s
    refine wpAny_bind (W.item i s _ _ hlt hst fun v s' hP hst' hm => ?_)
    obtain ⟨b, rfl, hp, hbn⟩ := hv i v hP
    have hbw : b ∉ wr := fun z => hbn (hsub b z)
    have hS' := keepD hm.heap hS
    obtain ⟨o, key, m, ho, hc, hd, hk'⟩ := hp
    have ho' := hm.heap b o hbw ho
    have hT : s'.TypeIs (.ref b) "tuple" := ⟨o, ho', hc⟩
    show wpAny _ A.in1 (holding [Value.ref b] _ >>= _) _ _ s'
    refine wpAny_bind (wpAny_holding ?_)
    refine wpAny_bind ?_
    refine wpAny_tryCatch ?_
    unfold Builtin.Dict.pairItems
    refine wpAny_bind (wpAny_typeOf hT ?_)
    rw [if_pos (by decide)]
    refine wpAny_bind (wpAny_seqItems ho' hd ?_)
    refine wpAny_pure ?_
    show wpAny _ A.in1 (holding [key, (kv i).2] (dictSet D key (kv i).2)) _ _ s'
    refine wpAny_holding ?_
    have hlen := upTo_len kv i
    refine wpAny_dictSet_pairs (hsz := L2.leMil (by omega)) hk' hS' fun h' hD' hsb => ?_
    rw [← upTo_succ] at hD'
    refine wpAny_pure ⟨plainId_quiet plain_loop _, ?_⟩
    show codeAny _ A (.builtin "dict.update.loop" ⟨[.ref D, .ref I, rawInt ((i + 1 : Nat) : Int), .none], []⟩) R _
    refine ih (i + 1) _ (by omega) hlt (W.frame _ s' _ _ hst' (Nat.le_add_right _ _) fun c hc' o' e => ?_) (fun j v hj => ?_) hD' fun s'' hm'' hS'' => ?_
    · rw [hsb.2 c (fun h : c = D => hDf (by rw [← h]; exact hc'))]; exact e
    · obtain ⟨b2, e2, ⟨ob, key2, m2, h1, h2⟩, hn2⟩ := hv j v hj
      refine ⟨b2, e2, ⟨ob, key2, m2, ?_, h2⟩, hn2⟩
      exact (hsb.2 b2 (fun h : b2 = D => hn2 (by rw [h]; exact List.mem_cons_self))).trans (hm.heap b2 ob (fun z => hn2 (hsub b2 z)) h1)
    · refine hR s'' (Moved.trans W.gtrans ((hm.mono hsub).then_heap (Nat.le_add_right _ _) fun c o' hc' e => ?_) hm'') hS''
      rw [hsb.2 c (fun h : c = D => hc' (by rw [h]; exact List.mem_cons_self))]; exact e
end
section
variable {prog : Program} {w : World} {K : Type} [DecidableEq K] {knd : KeyKind prog w K} {A : Around} {E : Value → Shared → Prop} {s : Shared}
theorem call_dict_list {l : Addr} {items : Array Value} {kv : Nat → K × Value} {Q : Value → Shared → Prop} (hh : A.handled = none) (hl : ∃ o m, s.heap.get? l = some o ∧ o.cls = .type "list" ∧ o.dict = none ∧ o.data = .seq items m)
    (hi : ∀ (i : Nat) (v : Value), items[i]? = some v → ∃ b, v = .ref b ∧ PairAt knd s.heap b (kv i)) (hb : items.size ≤ 1000)
    (h : ∀ (h' : Heap) (tk : Nat), h'.DictOf knd s.heap.objs.size (upTo kv items.size) → (∀ b o, s.heap.get? b = some o → h'.get? b = some o) → Q (.ref s.heap.objs.size) { s with heap := h', toks := tk }) :
    wpAny (model prog w) A (call (.type "dict") [.ref l]) Q E s := by
  obtain ⟨ol, ml, hol, hcl, hdl, hsl⟩ := hl
  refine callType_codes (Q₁ := fun obj s₁ => obj = .ref s.heap.objs.size ∧ s₁ = { s with heap := s.heap.push { cls := .type "dict", data := .dict #[] } }) F.kt_called_dict (F.kt_typeCall_dict_1 _) F.entry_dict_init (kt_code_dict_new _ ⟨rfl, rfl⟩) ?_
  rintro obj s₁ ⟨rfl, rfl⟩
  have hnew : (s.heap.push { cls := .type "dict", data := .dict #[] }).DictOf knd s.heap.objs.size [] := Heap.DictOf.new s.heap
  have hol' : (s.heap.push { cls := .type "dict", data := .dict #[] }).get? l = some ol := Heap.get?_push_of_some _ hol
  refine ⟨hnew.typeIs, F.args_dict_init_2 _ _, ?_⟩
  unfold Builtin.«dict.__init__»
  refine wpAny_bind ?_
  unfold Builtin.Dict.selfAndRest
  refine wpAny_bind (wpAny_notOrdered_dict hnew.typeIs ?_)
  show wpAny _ _ (pure (s.heap.objs.size, [Value.ref l])) _ _ _
  refine wpAny_pure ?_
  show wpAny _ _ (Builtin.Dict.updateFrom "dict.__init__" s.heap.objs.size (.ref l) [] .none) _ _ _
  unfold Builtin.Dict.updateFrom
  refine wpAny_bind (wpAny_typeOf (show Shared.TypeIs _ (.ref l) "list" from ⟨ol, hol', hcl⟩) ?_)
  rw [if_pos (by decide)]
  refine wpAny_bind (keys_miss_list hol' hcl hsl hdl (by simp [hh]) fun h1 tk1 k1 => ?_)
  rw [if_pos (show (Option.isNone (none : Option Value)) = true from rfl)]
  refine wpAny_bind (wpAny_rule ?_)
  have hol1 := k1 _ _ hol'
  have hl1 : h1.IsList l items := ⟨ol, hol1, hcl, ml, hsl⟩
  refine wpAny_bind (wpAny_pyIter_list hl1 ?_)
  have hD1 : ∀ o, s.heap.get? s.heap.objs.size = some o → False := fun o e => absurd (Heap.lt_size e) (Nat.lt_irrefl _)
  have hDI : s.heap.objs.size < h1.objs.size := by
    obtain ⟨o, _, _, ho, _⟩ := hnew
    exact Heap.lt_size (k1 _ _ ho)
  have hlI : l < h1.objs.size := Heap.lt_size hol1
  have hlD : l < s.heap.objs.size := Heap.lt_size hol
  have up : ∀ b o, s.heap.get? b = some o → (h1.push { cls := .type "list_iterator", data := .fields #[.ref l, .int 0 0] }).get? b = some o := fun b o e => Heap.get?_push_of_some _ (k1 _ _ (Heap.get?_push_of_some _ e))
  refine wpAny_pure ⟨plainId_quiet plain_loop _, ?_⟩
  have hh2 : A.in1.in1.handled = none := by simp [hh]
  refine loop (knd := knd) ((Walks.list hh2 h1.objs.size l (Nat.ne_of_lt hlI) items).toS) s.heap.objs.size ?hf kv hb (items.size - 0) 0 _ (by omega) (Nat.zero_le _)
    ⟨⟨_, Heap.get?_push_size _ rfl, rfl, rfl⟩, (hl1.push _)⟩ (fun i v hv => ?hval) ?hS0 ?hR
  case hf =>
    simp only [List.mem_cons, List.mem_singleton, List.not_mem_nil, or_false, not_or]
    exact ⟨Nat.ne_of_lt hDI, Nat.ne_of_gt hlD⟩
  case hval =>
    obtain ⟨b, e, o, key, m, h1', h2'⟩ := hi i v hv
    have hbs : b < s.heap.objs.size := Heap.lt_size h1'
    refine ⟨b, e, ⟨o, key, m, up _ _ h1', h2'⟩, ?_⟩
    simp only [List.mem_cons, List.mem_singleton, List.not_mem_nil, or_false, not_or]
    exact ⟨Nat.ne_of_lt hbs, Nat.ne_of_lt (Nat.lt_trans hbs hDI)⟩
  case hS0 =>
    obtain ⟨o, es, ep, ho, r⟩ := hnew
    exact ⟨o, es, ep, Heap.get?_push_of_some _ (k1 _ _ ho), r⟩
  case hR =>
    intro s' hm hS'
    obtain ⟨h', g', d', tk', os'⟩ := s'
    have eg : g' = s.gens := hm.gens
    have ed : d' = s.drawn := hm.drawn
    have eo : os' = s.os := hm.os
    subst eg; subst ed; subst eo
    refine ⟨rfl, h h' tk' hS' fun b o e => ?_⟩
    have hbs : b < s.heap.objs.size := Heap.lt_size e
    exact hm.heap b o (by simp only [List.mem_cons, List.mem_singleton, List.not_mem_nil, or_false, not_or]; exact ⟨Nat.ne_of_lt hbs, Nat.ne_of_lt (Nat.lt_trans hbs hDI)⟩) (up b o e)
end
end DictL

set_option Elab.async false
set_option linter.all false
set_option maxRecDepth 100000
set_option maxHeartbeats 4000000
namespace L2
open PySem PySem.Spec PyProof.Rows
/-! ### dicts whose keys are ints or None: the rules -/
def nV : Option Int → V
  | Option.none => .non
  | some i => .int i
theorem nV_is {P : Program} {w : World} {k : Option Int} {u : Value} (r : RelV (nV k) u) : (nKind P w).is k u = true := by
  cases k with
  | none => cases (show u = Value.none from r); rfl
  | some i =>
    obtain ⟨t, rfl⟩ := (show ∃ t, u = Value.int i t from r)
    show Value.isInt i (.int i t) = true
    simp [Value.isInt]
def dnHO (P : Program) (w : World) (a : Addr) (kvs : List (Option Int × V)) : HO := .ext fun h => kvs.length ≤ sizeLine ∧ (a == sysModules) = false ∧ ∃ vs, KV kvs vs ∧ h.DictOf (nKind P w) a vs
theorem dn_ok {P : Program} {w : World} {H : Hp} {h : Heap} {a : Addr} {kvs : List (Option Int × V)} {vs : List (Option Int × Value)} (z : kvs.length ≤ sizeLine) (hd : (a == sysModules) = false) (rel : KV kvs vs) (dd : h.DictOf (nKind P w) a vs) : ObjOk P w H h a (dnHO P w a kvs) := by
  refine ⟨⟨z, hd, vs, rel, dd⟩, let ⟨o, _, _, ho, _⟩ := dd; ⟨o, ho⟩, fun h1 h2 x k => ?_⟩
  obtain ⟨z1, z2, vs', r', o, es, ep, ho, r⟩ := x
  exact ⟨z1, z2, vs', r', o, es, ep, k o ho, r⟩
section
variable {X : Cx}
theorem dn_of {pins : List (Addr × Obj)} {σ : St} {H : Hp} {s : Shared} {a : Addr} {kvs : List (Option Int × V)} (I : Inv X pins σ H s) (e : H a = some (dnHO X.prog X.w a kvs)) : kvs.length ≤ sizeLine ∧ (a == sysModules) = false ∧ ∃ vs, KV kvs vs ∧ s.heap.DictOf (nKind X.prog X.w) a vs := (I.hok a _ e).1
/-! {} -/
def tDNewN (P : Program) (w : World) : TE := fun _ H Q => ∀ p H', H p = none → Same H H' → H' p = some (dnHO P w p []) → Q (.ref p) H'
theorem pe_dnewN {pos : Pos} : PE X (.Dict [] [] pos) (tDNewN X.prog X.w) := fun pins s σ H Q I h =>
  wpAny_Dict_empty ⟨.ref s.heap.objs.size, _, I.laid (a := s.heap.objs.size) (o := dnHO X.prog X.w s.heap.objs.size []) (t' := s.toks) (fun _ _ q => Heap.get?_push_of_some _ q) (Nat.le_refl _)
    (dn_ok (Nat.zero_le _) (beq_eq_false_iff_ne.mpr (Ne.symm (Nat.ne_of_lt I.big))) .nil (Heap.DictOf.new s.heap)), rfl, h _ _ (I.hok.fresh (Nat.le_refl _)) (same_add (I.hok.fresh (Nat.le_refl _))) upd_same⟩
/-! k not in d, k in d -/
def tDNotInN (P : Program) (w : World) (ty td : TE) : TE := fun σ H Q => ty σ H fun y H1 => td σ H1 fun x H2 => ∃ a kvs k, x = .ref a ∧ y = nV k ∧ H2 a = some (dnHO P w a kvs) ∧ Q (.bl (!(valV kvs k).isSome)) H2
theorem pc_dnotinN {i o : Expr} {ty td : TE} (hi : PE X i ty) (ho : PE X o td) : PC X .NotIn i o (tDNotInN X.prog X.w ty td) := by
  intro pins s σ H Q I h
  refine thn (hi pins s σ H _ I h) fun iv s1 ⟨y, H1, I1, ry, q1⟩ => thn (ho pins s1 σ H1 _ I1 q1) fun u s2 ⟨x, H2, I2, rx, a, kvs, k, ex, ey, e, q2⟩ => ?_
  subst ex ey
  obtain rfl : u = Value.ref a := rx
  obtain ⟨z, hd, vs, rel, dd⟩ := dn_of I2 e
  refine wpAny_notIn_of (nV_is ry) hd dd.mapOf ?_
  rw [← (rel.val k).isSome_eq]
  exact ⟨.bl (!(valV kvs k).isSome), H2, I2.tok _, rfl, q2⟩
/-! d[k] = v -/
def sDPutN (P : Program) (w : World) (td ty tv : TE) : TS := fun D σ H => tv σ H fun v H1 => td σ H1 fun x H2 => ty σ H2 fun y H3 => ∃ a kvs k, x = .ref a ∧ y = nV k ∧ H3 a = some (dnHO P w a kvs) ∧ kvs.length < 100000 ∧ D.nx σ (upd H3 a (dnHO P w a (putK kvs k v)))
theorem ps_dputN {o i value : Expr} {td ty tv : TE} {pos pos' : Pos} (ho : PE X o td) (hi : PE X i ty) (hv : PE X value tv) (hs : swapsWith value (some (.Subscript o i pos')) pos.line X.env = pure false) :
    PS X (.Assign [.Subscript o i pos'] value pos) (sDPutN X.prog X.w td ty tv) := by
  intro pins s σ H D I h
  refine wpAny_Assign_Subscript (thn (hv pins s σ H _ I h) fun r s1 ⟨v, H1, I1, rv, q1⟩ => thn (ho pins s1 σ H1 _ I1 q1) fun u s2 ⟨x, H2, I2, rx, q2⟩ => thn (hi pins s2 σ H2 _ I2 q2) fun iv s3 ⟨y, H3, I3, ry, a, kvs, k, ex, ey, e, l, q3⟩ => ?_) hs
  subst ex ey
  obtain rfl : u = Value.ref a := rx
  obtain ⟨z, hd, vs, rel, dd⟩ := dn_of I3 e
  have hz : vs.length ≤ sizeLine := by rw [← rel.length]; exact z
  have hl : (putK kvs k v).length ≤ sizeLine := leMil (by have := length_putK kvs k v; omega)
  refine wpAny_setItem_pairs (hsz := hz) (nV_is ry) dd fun h' dd' hs' => ⟨σ, _, ?_, q3⟩
  have he : ∃ q, h'.get? a = some q := let ⟨q, _, _, hq, _⟩ := dd'; ⟨q, hq⟩
  exact d_write I3 (by rw [e]; exact True.intro) hs' he (dn_ok hl hd (rel.put k rv) dd')
/-! dict([(k, v), ..]) -/
def fromPairs (ps : List (Option Int × V)) : List (Option Int × V) := ps.foldl (fun acc p => putK acc p.1 p.2) []
def rDictN (P : Program) (w : World) (K : PySem.W.Frag) : List V → Hp → VK → Prop := fun xs H Q => ∃ p ys, ∃ ps : List (Option Int × V), xs = [.ref p] ∧ SqL K H p ys ∧ ys.length = ps.length ∧ ys.length ≤ 1000 ∧
  (∀ (i : Nat) y pr, ys[i]? = some y → ps[i]? = some pr → ∃ b, y = .ref b ∧ H b = some (.tup [nV pr.1, pr.2])) ∧ ∀ q H', Same H H' → H' q = some (dnHO P w q (fromPairs ps)) → Q (.ref q) H'
theorem fromPairs_len (ps : List (Option Int × V)) : (fromPairs ps).length ≤ ps.length := by
  have key : ∀ (ps acc : List (Option Int × V)), (ps.foldl (fun acc p => putK acc p.1 p.2) acc).length ≤ acc.length + ps.length := by
    intro ps
    induction ps with
    | nil => intro acc; exact Nat.le_refl _
    | cons p ps ih =>
      intro acc
      have h1 := ih (putK acc p.1 p.2)
      have h2 := length_putK acc p.1 p.2
      rw [List.length_cons]
      show (ps.foldl (fun acc p => putK acc p.1 p.2) (putK acc p.1 p.2)).length ≤ _
      omega
  have := key ps []
  simpa [fromPairs] using this
theorem fromPairs_kv {ps : List (Option Int × V)} {kv : Nat → Option Int × Value} (h : ∀ i, (hi : i < ps.length) → (kv i).1 = ps[i].1 ∧ RelV ps[i].2 (kv i).2) : ∀ n, n ≤ ps.length → KV (fromPairs (ps.take n)) (DictL.upTo kv n)
  | 0, _ => .nil
  | n + 1, hn => by
    obtain ⟨h1, h2⟩ := h n (by omega)
    rw [List.take_add_one, List.getElem?_eq_getElem (by omega), DictL.upTo_succ]
    unfold fromPairs
    rw [List.foldl_append]
    have ih := fromPairs_kv h n (by omega)
    show KV (putK (fromPairs (ps.take n)) ps[n].1 ps[n].2) _
    rw [h1]
    exact ih.put _ h2
theorem call_dictN {k : Nat} (hr : Room k X.A) : CallR X (.type "dict") (rDictN X.prog X.w X.K) := by
  intro pins s σ H xs us Q I r h
  obtain ⟨p, ys, ps, rfl, hp, hlen, h1000, hk, q⟩ := h
  obtain ⟨u, rfl, rx⟩ := vals1 r
  cases (show u = Value.ref p from rx)
  obtain ⟨vs, rv, pl, hz⟩ := I.list hp
  have hvl := rv.length
  have ex : ∀ i : Nat, ∃ pr : Option Int × Value, ∀ (hi : i < ps.length), pr.1 = ps[i].1 ∧ RelV ps[i].2 pr.2 ∧ ∀ v, vs[i]? = some v → ∃ b, v = .ref b ∧ DictL.PairAt (nKind X.prog X.w) s.heap b pr := fun i => by
    by_cases hi : i < ps.length
    · have hy : ys[i]? = some ys[i] := List.getElem?_eq_getElem (by omega)
      obtain ⟨b, eb, hb⟩ := hk i _ _ hy (List.getElem?_eq_getElem hi)
      obtain ⟨u2, e2, r2⟩ := rv.get hy
      obtain ⟨_, its, ri, o, ho, hc, n, hd⟩ := I.hok b _ hb
      obtain ⟨u1, u3, rfl, ra, rb⟩ := vals2 ri
      refine ⟨(ps[i].1, u3), fun _ => ⟨rfl, rb, fun v hv => ?_⟩⟩
      rw [hv] at e2
      cases e2
      rw [eb] at r2
      exact ⟨b, r2, o, u1, n, ho, hc, hd, nV_is ra⟩
    · exact ⟨(none, .none), fun h => absurd h hi⟩
  obtain ⟨kv, hkv⟩ := Classical.axiomOfChoice ex
  obtain ⟨o, n, ho, hc, hdn, hd⟩ := pl
  refine DictL.call_dict_list (knd := nKind X.prog X.w) (kv := kv) hr.hd ⟨o, n, ho, hc, hdn, hd⟩ (fun i v hv => ?_) (by rw [List.size_toArray]; omega) fun h' tk hD kp => ?_
  · have hv' : vs[i]? = some v := by simpa using hv
    have hi : i < vs.length := (List.getElem?_eq_some_iff.mp hv').1
    exact (hkv i (by omega)).2.2 v hv'
  · have esz : vs.toArray.size = ps.length := by rw [List.size_toArray]; omega
    rw [esz] at hD
    have rel := fromPairs_kv (ps := ps) (kv := kv) (fun i hi => ⟨(hkv i hi).1, (hkv i hi).2.1⟩) ps.length (Nat.le_refl _)
    rw [List.take_length] at rel
    have hlp := fromPairs_len ps
    refine ⟨.ref s.heap.objs.size, _, I.laid (t' := tk) (o := dnHO X.prog X.w s.heap.objs.size (fromPairs ps)) kp (Nat.le_refl _) ?_, rfl, q _ _ (same_add (I.hok.fresh (Nat.le_refl _))) upd_same⟩
    exact dn_ok (leMil (by omega)) (beq_eq_false_iff_ne.mpr (Ne.symm (Nat.ne_of_lt I.big))) rel hD
/-- a key is there where some pair has it -/
theorem fromPairs_in (ps : List (Option Int × V)) (k : Option Int) : (valV (fromPairs ps) k).isSome = true ↔ ∃ p ∈ ps, p.1 = k := by
  have key : ∀ (ps acc : List (Option Int × V)), (valV (ps.foldl (fun acc p => putK acc p.1 p.2) acc) k).isSome = true ↔ (valV acc k).isSome = true ∨ ∃ p ∈ ps, p.1 = k := by
    intro ps
    induction ps with
    | nil => intro acc; exact ⟨.inl, fun h => h.elim id fun ⟨p, hp, _⟩ => by cases hp⟩
    | cons p ps ih =>
      intro acc
      show (valV (ps.foldl (fun acc p => putK acc p.1 p.2) (putK acc p.1 p.2)) k).isSome = true ↔ _
      rw [ih, valV_put]
      by_cases e : k = p.1
      · rw [if_pos e]
        exact ⟨fun _ => .inr ⟨p, .head _, e.symm⟩, fun _ => .inl rfl⟩
      · rw [if_neg e]
        constructor
        · rintro (h | ⟨q, hq, e2⟩)
          · exact .inl h
          · exact .inr ⟨q, .tail _ hq, e2⟩
        · rintro (h | ⟨q, hq, e2⟩)
          · exact .inl h
          · cases hq with
            | head => exact absurd e2.symm e
            | tail _ hq => exact .inr ⟨q, hq, e2⟩
  have := key ps []
  rw [show (fromPairs ps) = ps.foldl (fun acc p => putK acc p.1 p.2) [] from rfl, this]
  exact ⟨fun h => h.elim (fun z => by cases z) id, .inr⟩
end
end L2

set_option Elab.async false
set_option linter.all false
set_option maxRecDepth 100000
set_option maxHeartbeats 4000000
namespace L2
open PySem PySem.Spec PyProof.Rows
theorem same_new {H : Hp} {d : Addr} {o : HO} (h : H d = Option.none) : Same H (upd H d o) := fun b u e => by rw [upd_ne (ne_of_none e h)]; exact e
theorem Same.none {H H' : Hp} (s : Same H H') {d : Addr} (h : H' d = Option.none) : H d = Option.none := by
  cases z : H d with
  | none => rfl
  | some o => rw [s d o z] at h; cases h
/-- what is new may be written -/
theorem Same.wr {H H' : Hp} (s : Same H H') {d : Addr} {o : HO} (h : H d = Option.none) : Same H (upd H' d o) := fun b u e => by rw [upd_ne (ne_of_none e h)]; exact s b u e
end L2
namespace My
open PySem L2
theorem bLen : bootBuiltins "len" = some (.builtin "len") := by decide +kernel
theorem bIsi : bootBuiltins "isinstance" = some (.builtin "isinstance") := by decide +kernel
theorem bInt : bootBuiltins "int" = some (.type "int") := by decide +kernel
theorem bBool : bootBuiltins "bool" = some (.type "bool") := by decide +kernel
theorem bTuple : bootBuiltins "tuple" = some (.type "tuple") := by decide +kernel
theorem bList : bootBuiltins "list" = some (.type "list") := by decide +kernel
theorem bRange : bootBuiltins "range" = some (.type "range") := by decide +kernel
theorem bMax : bootBuiltins "max" = some (.builtin "max") := by decide +kernel
theorem bMin : bootBuiltins "min" = some (.builtin "min") := by decide +kernel
theorem bDict : bootBuiltins "dict" = some (.type "dict") := by decide +kernel
/-- the names that the module leaves to the builtins -/
structure Bi (mg : Str → Option Value) : Prop where
  len : mg "len" = none
  isi : mg "isinstance" = none
  int : mg "int" = none
  bool : mg "bool" = none
  tuple : mg "tuple" = none
  list : mg "list" = none
  range : mg "range" = none
  max : mg "max" = none
  min : mg "min" = none
  zip : mg "zip" = none
  dict : mg "dict" = none
theorem kit (K : PySem.W.Frag) (T U : String) (b : Bool) (h : PySem.W.kitOne [] (.type T) (.type U) = some b) : PySem.W.kitOne K (.type T) (.type U) = some b := h
/-- a tie of n points -/
def TieOk (H : Hp) (n : Int) (t : V) : Prop := ∃ q i j, t = V.ref q ∧ H q = some (.tup [.int i, .int j]) ∧ 0 ≤ i ∧ i < n ∧ 0 ≤ j ∧ j < n ∧ i ≠ j
def Ties (H : Hp) (n : Int) (ts : List V) : Prop := ∀ t ∈ ts, TieOk H n t
theorem TieOk.same {H H' : Hp} {n : Int} {t : V} (h : TieOk H n t) (k : Same H H') : TieOk H' n t := let ⟨q, i, j, a, b, c⟩ := h; ⟨q, i, j, a, k _ _ b, c⟩
theorem Ties.same {H H' : Hp} {n : Int} {ts : List V} (h : Ties H n ts) (k : Same H H') : Ties H' n ts := fun t ht => (h t ht).same k
/-- a net, its ties by their ends -/
structure NetZ (H : Hp) (p : Addr) (n : Nat) (q : Addr) (ts : List V) (es : List (Nat × Nat)) : Prop where
  e1 : H p = some (.tup [.int (n : Int), .ref q])
  e2 : H q = some (.tup ts)
  len : ts.length = es.length
  tie : ∀ (i : Nat) t, ts[i]? = some t → ∃ a, t = V.ref a ∧ H a = some (.tup [.int ((es.getD i (0, 0)).1 : Int), .int ((es.getD i (0, 0)).2 : Int)])
  l200 : es.length ≤ 200
  n60 : n ≤ 60
  ok : ∀ e ∈ es, e.1 < n ∧ e.2 < n ∧ e.1 ≠ e.2
theorem NetZ.same {H H' : Hp} {p q : Addr} {n : Nat} {ts : List V} {es : List (Nat × Nat)} (h : NetZ H p n q ts es) (k : Same H H') : NetZ H' p n q ts es :=
  ⟨k _ _ h.e1, k _ _ h.e2, h.len, fun i t e => let ⟨a, x, y⟩ := h.tie i t e; ⟨a, x, k _ _ y⟩, h.l200, h.n60, h.ok⟩
theorem getD_mem {es : List (Nat × Nat)} {k : Nat} (h : k < es.length) : es.getD k (0, 0) ∈ es := by rw [List.getD_eq_getElem?_getD, List.getElem?_eq_getElem h]; exact List.getElem_mem h
/-- the tie by its number -/
theorem NetZ.at' {H : Hp} {p q : Addr} {n : Nat} {ts : List V} {es : List (Nat × Nat)} (h : NetZ H p n q ts es) {k : Nat} (hk : k < es.length) : ∃ a, ts[k]? = some (.ref a) ∧ H a = some (.tup [.int ((es.getD k (0, 0)).1 : Int), .int ((es.getD k (0, 0)).2 : Int)]) := by
  have hk' : k < ts.length := by rw [h.len]; exact hk
  obtain ⟨a, x, y⟩ := h.tie k _ (List.getElem?_eq_getElem hk')
  exact ⟨a, by rw [List.getElem?_eq_getElem hk', x], y⟩
theorem ties_es {H : Hp} {n : Int} : ∀ {ts : List V}, Ties H n ts → ∃ es : List (Nat × Nat), ts.length = es.length ∧ (∀ (i : Nat) t, ts[i]? = some t → ∃ a, t = V.ref a ∧ H a = some (.tup [.int ((es.getD i (0, 0)).1 : Int), .int ((es.getD i (0, 0)).2 : Int)])) ∧ ∀ e ∈ es, (e.1 : Int) < n ∧ (e.2 : Int) < n ∧ e.1 ≠ e.2
  | [], _ => ⟨[], rfl, (fun i t e => by rw [List.getElem?_nil] at e; cases e), fun e h => by cases h⟩
  | t :: ts, h => by
    obtain ⟨es, h1, h2, h3⟩ := ties_es (ts := ts) fun u hu => h u (.tail _ hu)
    obtain ⟨q, i, j, rfl, hq, b1, b2, b3, b4, b5⟩ := h t (.head _)
    refine ⟨(i.toNat, j.toNat) :: es, by rw [List.length_cons, List.length_cons, h1], fun k u e => ?_, fun e he => ?_⟩
    · cases k with
      | zero =>
        rw [List.getElem?_cons_zero] at e
        cases e
        refine ⟨q, rfl, ?_⟩
        show H q = some (.tup [.int ((i.toNat : Nat) : Int), .int ((j.toNat : Nat) : Int)])
        rw [Int.toNat_of_nonneg b1, Int.toNat_of_nonneg b3]
        exact hq
      | succ k =>
        rw [List.getElem?_cons_succ] at e
        obtain ⟨a, x, y⟩ := h2 k u e
        exact ⟨a, x, by rw [y]; rfl⟩
    · cases he with
      | head =>
        show ((i.toNat : Nat) : Int) < n ∧ ((j.toNat : Nat) : Int) < n ∧ i.toNat ≠ j.toNat
        omega
      | tail _ he => exact h3 e he
theorem netZ_of {H : Hp} {p q : Addr} {n m : Int} {ts : List V} (e1 : H p = some (.tup [.int m, .ref q])) (e2 : H q = some (.tup ts)) (l : ts.length ≤ 200) (hT : Ties H n ts) (h0 : 0 ≤ m) (h60 : m ≤ 60) (hnm : n ≤ m) : ∃ es, NetZ H p m.toNat q ts es := by
  obtain ⟨es, h1, h2, h3⟩ := ties_es hT
  exact ⟨es, by rw [Int.toNat_of_nonneg h0]; exact e1, e2, h1, h2, by omega, by omega, fun e he => by obtain ⟨a, b, c⟩ := h3 e he; exact ⟨by omega, by omega, c⟩⟩
def nl (l : List Nat) : List V := l.map fun x : Nat => V.int (x : Int)
theorem nl_get {l : List Nat} {i x : Nat} (h : l[i]? = some x) : (nl l)[i]? = some (.int (x : Int)) := by unfold nl; rw [List.getElem?_map, h]; rfl
theorem nl_len (l : List Nat) : (nl l).length = l.length := by unfold nl; rw [List.length_map]
/-- a tint, or None -/
def tN : Option Nat → V
  | none => .non
  | some t => .int (t : Int)
def tv (tl : List (Option Nat)) : List V := tl.map tN
theorem tv_len (tl : List (Option Nat)) : (tv tl).length = tl.length := by unfold tv; rw [List.length_map]
theorem tv_get {tl : List (Option Nat)} {i : Nat} {o : Option Nat} (h : tl[i]? = some o) : (tv tl)[i]? = some (tN o) := by unfold tv; rw [List.getElem?_map, h]; rfl
theorem tv_inv {tl : List (Option Nat)} {i : Nat} {x : V} (h : (tv tl)[i]? = some x) : ∃ o, tl[i]? = some o ∧ x = tN o := by
  unfold tv at h
  rw [List.getElem?_map] at h
  cases e : tl[i]? with
  | none => rw [e] at h; cases h
  | some o => rw [e] at h; cases h; exact ⟨o, rfl, rfl⟩
theorem tN_non {o : Option Nat} : tN o = .non ↔ o = none := by cases o <;> simp [tN]
theorem tN_nV (o : Option Nat) : tN o = nV (o.map fun t : Nat => (t : Int)) := by cases o <;> rfl
end My

set_option Elab.async false
set_option linter.all false
set_option maxRecDepth 100000
set_option maxHeartbeats 4000000
namespace My
open PySem L2
/-- p is an end of the tie -/
def At (e : Nat × Nat) (p : Nat) : Prop := p = e.1 ∨ p = e.2
/-- a tie before the k-th with that tint is at p -/
def Used (es : List (Nat × Nat)) (tl : List (Option Nat)) (k p t : Nat) : Prop := ∃ j, j < k ∧ tl[j]? = some (some t) ∧ At (es.getD j (0, 0)) p
/-- no two ties before the k-th that meet are alike -/
def CleanTo (es : List (Nat × Nat)) (tl : List (Option Nat)) (k : Nat) : Prop := ∀ i j t, j < i → i < k → tl[i]? = some (some t) → tl[j]? = some (some t) → ∀ p, At (es.getD i (0, 0)) p → ¬ At (es.getD j (0, 0)) p
theorem CleanTo.zero (es : List (Nat × Nat)) (tl : List (Option Nat)) : CleanTo es tl 0 := fun i j t _ h => absurd h (Nat.not_lt_zero _)
theorem Used.zero {es : List (Nat × Nat)} {tl : List (Option Nat)} {p t : Nat} : ¬ Used es tl 0 p t := fun ⟨j, h, _⟩ => absurd h (Nat.not_lt_zero _)
theorem Used.succ {es : List (Nat × Nat)} {tl : List (Option Nat)} {k p t : Nat} : Used es tl (k + 1) p t ↔ Used es tl k p t ∨ (tl[k]? = some (some t) ∧ At (es.getD k (0, 0)) p) := by
  constructor
  · rintro ⟨j, h, a, b⟩
    by_cases e : j = k
    · subst e; exact .inr ⟨a, b⟩
    · exact .inl ⟨j, by omega, a, b⟩
  · rintro (⟨j, h, a, b⟩ | ⟨a, b⟩)
    · exact ⟨j, by omega, a, b⟩
    · exact ⟨k, by omega, a, b⟩
theorem CleanTo.succ {es : List (Nat × Nat)} {tl : List (Option Nat)} {k : Nat} (h : CleanTo es tl k) (hk : ∀ t, tl[k]? = some (some t) → ∀ p, At (es.getD k (0, 0)) p → ¬ Used es tl k p t) : CleanTo es tl (k + 1) := by
  intro i j t hj hi h1 h2 p hp hq
  by_cases e : i = k
  · subst e
    exact hk t h1 p hp ⟨j, hj, h2, hq⟩
  · exact h i j t hj (by omega) h1 h2 p hp hq
theorem CleanTo.not {es : List (Nat × Nat)} {tl : List (Option Nat)} {k p t : Nat} {n : Nat} (hk : k < n) (h1 : tl[k]? = some (some t)) (hp : At (es.getD k (0, 0)) p) (hu : Used es tl k p t) : ¬ CleanTo es tl n := fun h => by
  obtain ⟨j, hj, h2, hq⟩ := hu
  exact h k j t hj hk h1 h2 p hp hq
/-- what stands ahead is looked at alone -/
theorem Used.app {es : List (Nat × Nat)} {tl : List (Option Nat)} {o : Option Nat} {k p t : Nat} (h : k ≤ tl.length) : Used es (tl ++ [o]) k p t ↔ Used es tl k p t := by
  constructor
  · rintro ⟨j, hj, a, b⟩
    exact ⟨j, hj, by rw [List.getElem?_append_left (by omega)] at a; exact a, b⟩
  · rintro ⟨j, hj, a, b⟩
    exact ⟨j, hj, by rw [List.getElem?_append_left (by omega)]; exact a, b⟩
theorem CleanTo.app {es : List (Nat × Nat)} {tl : List (Option Nat)} {o : Option Nat} {k : Nat} (h : k ≤ tl.length) (c : CleanTo es tl k) : CleanTo es (tl ++ [o]) k := by
  intro i j t hj hi h1 h2
  rw [List.getElem?_append_left (by omega)] at h1 h2
  exact c i j t hj hi h1 h2
abbrev ky (a b : Nat) : List Key := [Sum.inl (a : Int), Sum.inl (b : Int)]
theorem ky_inj {a b c d : Nat} (h : ky a b = ky c d) : a = c ∧ b = d := by
  have h1 := List.cons.inj h
  have h2 := List.cons.inj h1.2
  have e1 := Sum.inl.inj h1.1
  have e2 := Sum.inl.inj h2.1
  omega
/-- the pairs (point, tint) in a dict, whatever else -/
def Keys (kvs : List (List Key × V)) (R : Nat → Nat → Prop) : Prop := ∀ p t : Nat, (valV kvs (ky p t)).isSome = true ↔ R p t
theorem Keys.put {kvs : List (List Key × V)} {R : Nat → Nat → Prop} (h : Keys kvs R) (a b : Nat) (v : V) : Keys (putK kvs (ky a b) v) (fun p t => R p t ∨ (p = a ∧ t = b)) := by
  intro p t
  rw [valV_put]
  by_cases e : ky p t = ky a b
  · rw [if_pos e]
    exact ⟨fun _ => .inr (ky_inj e), fun _ => rfl⟩
  · rw [if_neg e, h p t]
    exact ⟨.inl, fun z => z.elim id fun ⟨z1, z2⟩ => absurd (by rw [z1, z2]) e⟩
theorem Keys.iff {kvs : List (List Key × V)} {R S : Nat → Nat → Prop} (h : Keys kvs R) (e : ∀ p t, R p t ↔ S p t) : Keys kvs S := fun p t => (h p t).trans (e p t)
end My

set_option Elab.async false
set_option linter.all false
set_option maxRecDepth 100000
set_option maxHeartbeats 4000000
namespace My
open PySem L2
def put {α : Type} (f : Nat → α) (k : Nat) (v : α) : Nat → α := fun i => if i = k then v else f i
theorem put_same {α : Type} (f : Nat → α) (k : Nat) (v : α) : put f k v k = v := by unfold put; rw [if_pos rfl]
theorem put_ne {α : Type} (f : Nat → α) {k i : Nat} (v : α) (h : i ≠ k) : put f k v i = f i := by unfold put; rw [if_neg h]
def lv (L : Nat → Nat) (n : Nat) : List V := (List.range n).map fun x : Nat => V.int (L x : Int)
theorem lv_len (L : Nat → Nat) (n : Nat) : (lv L n).length = n := by unfold lv; rw [List.length_map, List.length_range]
theorem lv_get (L : Nat → Nat) {n k : Nat} (h : k < n) : (lv L n)[k]? = some (.int (L k : Int)) := by
  unfold lv
  rw [List.getElem?_map, List.getElem?_range h]
  rfl
theorem lv_set (L : Nat → Nat) (n k v : Nat) : (lv L n).set k (.int (v : Int)) = lv (put L k v) n := by
  apply List.ext_getElem?
  intro i
  by_cases hi : i < n
  · rw [lv_get _ hi, List.getElem?_set]
    by_cases e : k = i
    · subst e
      rw [if_pos rfl, if_pos (by rw [lv_len]; exact hi), put_same]
    · rw [if_neg e, lv_get _ hi, put_ne _ _ (fun z => e z.symm)]
  · rw [List.getElem?_eq_none (by rw [List.length_set, lv_len]; omega), List.getElem?_eq_none (by rw [lv_len]; omega)]
/-- how many ties have each tint -/
def cnt (tl : List (Option Nat)) (t : Nat) : Nat := tl.count (some t)
theorem cnt_succ {tl : List (Option Nat)} {i : Nat} {o : Option Nat} (h : tl[i]? = some o) (x : Nat) : cnt (tl.take (i + 1)) x = cnt (tl.take i) x + if o = some x then 1 else 0 := by
  unfold cnt
  rw [List.take_add_one, h]
  show ((tl.take i) ++ [o]).count (some x) = _
  rw [List.count_append, List.count_singleton]
  congr 1
  by_cases e : o = some x
  · subst e; simp
  · rw [if_neg e]
    have : ¬ ((o == some x) = true) := fun z => e (eq_of_beq z)
    simp [this, e]
theorem lv_nl {L : Nat → Nat} {n : Nat} {F : Nat → Nat} (h : ∀ x, x < n → L x = F x) : lv L n = nl ((List.range n).map F) := by
  unfold lv nl
  rw [List.map_map]
  refine List.map_congr_left fun x hx => ?_
  show V.int (L x : Int) = V.int (F x : Int)
  rw [h x (List.mem_range.mp hx)]
/-- one more of a tint that is below n -/
theorem cnt_put {tl : List (Option Nat)} {i n t : Nat} {L : Nat → Nat} (h : tl[i]? = some (some t)) (hL : ∀ x, x < n → L x = cnt (tl.take i) x) : ∀ x, x < n → put L t (L t + 1) x = cnt (tl.take (i + 1)) x := by
  intro x hx
  rw [cnt_succ h]
  by_cases e : x = t
  · subst e
    rw [put_same, if_pos rfl, hL x hx]
  · rw [put_ne _ _ e, if_neg (fun z => e (Option.some.inj z).symm), hL x hx]
    rfl
theorem cnt_skip {tl : List (Option Nat)} {i n : Nat} {o : Option Nat} {L : Nat → Nat} (h : tl[i]? = some o) (ho : ∀ t, o = some t → n ≤ t) (hL : ∀ x, x < n → L x = cnt (tl.take i) x) : ∀ x, x < n → L x = cnt (tl.take (i + 1)) x := by
  intro x hx
  rw [cnt_succ h, if_neg (fun z => by have := ho x z; omega), hL x hx]
  rfl
end My

set_option Elab.async false
set_option linter.all false
set_option maxRecDepth 100000
set_option maxHeartbeats 4000000
namespace My
/-- the tie has one of the two tints -/
def InP (tl : List (Option Nat)) (u v k : Nat) : Prop := tl[k]? = some (some u) ∨ tl[k]? = some (some v)
/-- the points to which one comes -/
inductive RP (es : List (Nat × Nat)) (tl : List (Option Nat)) (u v p : Nat) : Nat → Prop
  | start : RP es tl u v p p
  | step {x y k : Nat} : RP es tl u v p x → k < es.length → InP tl u v k → At (es.getD k (0, 0)) x → At (es.getD k (0, 0)) y → RP es tl u v p y
/-- the ties to which one comes -/
def RT (es : List (Nat × Nat)) (tl : List (Option Nat)) (u v p k : Nat) : Prop := k < es.length ∧ InP tl u v k ∧ ∃ x, RP es tl u v p x ∧ At (es.getD k (0, 0)) x
theorem InP.comm {tl : List (Option Nat)} {u v k : Nat} : InP tl u v k ↔ InP tl v u k := ⟨Or.symm, Or.symm⟩
theorem RP.comm {es : List (Nat × Nat)} {tl : List (Option Nat)} {u v p x : Nat} (h : RP es tl u v p x) : RP es tl v u p x := by
  induction h with
  | start => exact .start
  | step _ h1 h2 h3 h4 ih => exact .step ih h1 (InP.comm.mp h2) h3 h4
theorem RT.comm {es : List (Nat × Nat)} {tl : List (Option Nat)} {u v p k : Nat} : RT es tl u v p k ↔ RT es tl v u p k :=
  ⟨fun ⟨a, b, x, c, d⟩ => ⟨a, InP.comm.mp b, x, c.comm, d⟩, fun ⟨a, b, x, c, d⟩ => ⟨a, InP.comm.mp b, x, c.comm, d⟩⟩
theorem RT.end {es : List (Nat × Nat)} {tl : List (Option Nat)} {u v p k y : Nat} (h : RT es tl u v p k) (hy : At (es.getD k (0, 0)) y) : RP es tl u v p y := let ⟨a, b, x, c, d⟩ := h; .step c a b d hy
/-- a set of ties F with what was looked at (V) and what waits (W): ties at what was looked at are in, ends of what is in are looked at or wait -/
structure Walk (es : List (Nat × Nat)) (tl : List (Option Nat)) (u v p : Nat) (F : Nat → Prop) (V W : Nat → Prop) : Prop where
  rt : ∀ k, F k → RT es tl u v p k
  rw : ∀ x, W x → RP es tl u v p x
  cl : ∀ x, V x → ∀ k, k < es.length → InP tl u v k → At (es.getD k (0, 0)) x → F k
  en : ∀ k, F k → ∀ x, At (es.getD k (0, 0)) x → V x ∨ W x
  st : V p ∨ W p
/-- at the end just the ties to which one comes are in -/
theorem Walk.done {es : List (Nat × Nat)} {tl : List (Option Nat)} {u v p : Nat} {F V W : Nat → Prop} (h : Walk es tl u v p F V W) (hW : ∀ x, ¬ W x) : ∀ k, F k ↔ RT es tl u v p k := by
  have hV : ∀ x, RP es tl u v p x → V x := fun x hx => by
    induction hx with
    | start => exact h.st.resolve_right (hW _)
    | step _ h1 h2 h3 h4 ih => exact (h.en _ (h.cl _ ih _ h1 h2 h3) _ h4).resolve_right (hW _)
  exact fun k => ⟨h.rt k, fun ⟨a, b, x, c, d⟩ => h.cl x (hV x c) k a b d⟩
/-- rising rows with the same members are one -/
theorem rising_ext : ∀ {a b : List Nat}, a.Pairwise (· < ·) → b.Pairwise (· < ·) → (∀ x, x ∈ a ↔ x ∈ b) → a = b
  | [], [], _, _, _ => rfl
  | [], y :: b, _, _, h => by have := (h y).mpr (.head _); cases this
  | x :: a, [], _, _, h => by have := (h x).mp (.head _); cases this
  | x :: a, y :: b, ha, hb, h => by
    have ha' := List.pairwise_cons.mp ha
    have hb' := List.pairwise_cons.mp hb
    have e : x = y := by
      have h1 := (h x).mp (.head _)
      have h2 := (h y).mpr (.head _)
      rcases List.mem_cons.mp h1 with z | z
      · exact z
      · rcases List.mem_cons.mp h2 with z2 | z2
        · exact z2.symm
        · have := hb'.1 x z
          have := ha'.1 y z2
          omega
    subst e
    congr 1
    refine rising_ext ha'.2 hb'.2 fun z => ?_
    constructor
    · intro hz
      rcases List.mem_cons.mp ((h z).mp (.tail _ hz)) with q | q
      · subst q; exact absurd (ha'.1 z hz) (Nat.lt_irrefl _)
      · exact q
    · intro hz
      rcases List.mem_cons.mp ((h z).mpr (.tail _ hz)) with q | q
      · subst q; exact absurd (hb'.1 z hz) (Nat.lt_irrefl _)
      · exact q
/-- a rearrangement that does not fall, of what has no two alike, rises -/
theorem rising_of {a : List Nat} (h : a.Pairwise (· ≤ ·)) (nd : a.Nodup) : a.Pairwise (· < ·) := by
  induction a with
  | nil => exact .nil
  | cons x a ih =>
    have h' := List.pairwise_cons.mp h
    have nd' := List.nodup_cons.mp nd
    refine List.pairwise_cons.mpr ⟨fun y hy => ?_, ih h'.2 nd'.2⟩
    have := h'.1 y hy
    have : x ≠ y := fun z => by subst z; exact nd'.1 hy
    omega
/-! ### ends: two, or none -/
/-- how often x is an end of the ties in l -/
def deg (es : List (Nat × Nat)) : List Nat → Nat → Nat
  | [], _ => 0
  | k :: l, x => (if (es.getD k (0, 0)).1 = x then 1 else 0) + (if (es.getD k (0, 0)).2 = x then 1 else 0) + deg es l x
theorem deg_append (es : List (Nat × Nat)) (x : Nat) : ∀ a b : List Nat, deg es (a ++ b) x = deg es a x + deg es b x
  | [], b => by show deg es b x = 0 + deg es b x; omega
  | k :: a, b => by
    show _ + _ + deg es (a ++ b) x = _ + _ + deg es a x + deg es b x
    rw [deg_append es x a b]
    omega
theorem deg_perm {es : List (Nat × Nat)} {x : Nat} {a b : List Nat} (h : a.Perm b) : deg es a x = deg es b x := by
  induction h with
  | nil => rfl
  | cons k _ ih => show _ + _ + deg es _ x = _ + _ + deg es _ x; rw [ih]
  | swap k j l => show _ + _ + (_ + _ + deg es l x) = _ + _ + (_ + _ + deg es l x); omega
  | trans _ _ h1 h2 => exact h1.trans h2
/-- the sum over a row -/
def sumOver (f : Nat → Nat) : List Nat → Nat
  | [] => 0
  | x :: l => f x + sumOver f l
theorem sumOver_add (f g : Nat → Nat) : ∀ l, sumOver (fun x => f x + g x) l = sumOver f l + sumOver g l
  | [] => rfl
  | x :: l => by show f x + g x + sumOver _ l = f x + sumOver f l + (g x + sumOver g l); rw [sumOver_add f g l]; omega
theorem sumOver_one {y : Nat} : ∀ {l : List Nat}, l.Nodup → y ∈ l → sumOver (fun x => if y = x then 1 else 0) l = 1
  | x :: l, nd, h => by
    have nd' := List.nodup_cons.mp nd
    show (if y = x then 1 else 0) + sumOver _ l = 1
    rcases List.mem_cons.mp h with e | e
    · subst e
      rw [if_pos rfl]
      have : ∀ l : List Nat, y ∉ l → sumOver (fun x => if y = x then 1 else 0) l = 0 := by
        intro l
        induction l with
        | nil => intro _; rfl
        | cons z l ih =>
          intro hn
          show (if y = z then 1 else 0) + sumOver _ l = 0
          rw [if_neg (fun q => hn (by rw [q]; exact .head _)), ih fun q => hn (.tail _ q)]
      rw [this l nd'.1]
    · rw [if_neg (fun q => nd'.1 (by rw [← q]; exact e)), sumOver_one nd'.2 e]
/-- each tie has two ends -/
theorem sum_deg {es : List (Nat × Nat)} {pts : List Nat} (nd : pts.Nodup) : ∀ {l : List Nat}, (∀ k ∈ l, (es.getD k (0, 0)).1 ∈ pts ∧ (es.getD k (0, 0)).2 ∈ pts) → sumOver (deg es l) pts = 2 * l.length
  | [], _ => by
    have : ∀ l : List Nat, sumOver (deg es []) l = 0 := by
      intro l
      induction l with
      | nil => rfl
      | cons x l ih => show 0 + sumOver _ l = 0; rw [ih]
    rw [this]; rfl
  | k :: l, h => by
    obtain ⟨h1, h2⟩ := h k (.head _)
    have e : sumOver (deg es (k :: l)) pts = sumOver (fun x => (if (es.getD k (0, 0)).1 = x then 1 else 0) + (if (es.getD k (0, 0)).2 = x then 1 else 0)) pts + sumOver (deg es l) pts := sumOver_add (fun x => (if (es.getD k (0, 0)).1 = x then 1 else 0) + (if (es.getD k (0, 0)).2 = x then 1 else 0)) (deg es l) pts
    rw [e, sumOver_add, sumOver_one nd h1, sumOver_one nd h2, sum_deg nd fun j hj => h j (.tail _ hj), List.length_cons]
    omega
/-- where each point has one tie or two, those with one are twice as many as there are points more than ties -/
theorem ones_of {f : Nat → Nat} : ∀ {pts : List Nat}, (∀ x ∈ pts, f x = 1 ∨ f x = 2) → sumOver f pts + (pts.filter fun x => decide (f x = 1)).length = 2 * pts.length
  | [], _ => rfl
  | x :: pts, h => by
    have ih := ones_of (pts := pts) fun y hy => h y (.tail _ hy)
    rw [List.filter_cons, List.length_cons]
    show f x + sumOver f pts + _ = _
    rcases h x (.head _) with e | e
    · rw [if_pos (decide_eq_true e), List.length_cons]
      omega
    · rw [if_neg (fun z => by have := of_decide_eq_true z; omega)]
      omega
/-- the ends are two or none -/
theorem ends_two {es : List (Nat × Nat)} {pts l : List Nat} (nd : pts.Nodup) (h : ∀ k ∈ l, (es.getD k (0, 0)).1 ∈ pts ∧ (es.getD k (0, 0)).2 ∈ pts) (hd : ∀ x ∈ pts, deg es l x = 1 ∨ deg es l x = 2) (hc : pts.length ≤ l.length + 1) :
    (pts.filter fun x => decide (deg es l x = 1)).length = 0 ∨ (pts.filter fun x => decide (deg es l x = 1)).length = 2 := by
  have h1 := sum_deg nd h
  have h2 := ones_of hd
  omega
end My

set_option Elab.async false
set_option linter.all false
set_option maxRecDepth 100000
set_option maxHeartbeats 4000000
namespace PySem.W
open PySem PySem.Spec PySem.Calls PyProof.Rows PyProof.V
section
variable {prog : Program} {w : World} {A : Around} {E : Value → Shared → Prop} {s : Shared} {T : String} {r d : Addr} {n : Nat} {P : Nat → Value → Prop} {OK : Heap → Prop}
theorem dcollect {R : List Value → Shared → Prop} (K : KdlSrc prog w T r d n P OK) (hh : A.handled = none) (hok : OK s.heap) (hn : n ≤ sizeLine)
    (h : ∀ (h' : Heap) (tk : Nat) (acc : Array Value), (∀ b o, s.heap.get? b = some o → h'.get? b = some o) → s.heap.objs.size < h'.objs.size → ItemsOf P acc n → R acc.toList { s with heap := h', toks := tk }) :
    wpAny (model prog w) A (collect (.ref r)) R E s := by
  have hlt := K.there _ hok
  unfold collect
  refine wpAny_bind (wpAny_runValue (codeAny_builtin entry_proto_collect' ?_))
  rw [Around.under_plainId PySem.F.plain_proto_collect _]
  show wpAny _ A.in1 (newList [] >>= fun l => again (.builtin "list.__iadd__" ⟨[l, .ref r], []⟩)) _ _ s
  refine wpAny_bind (wpAny_newObj_type ?_)
  refine wpAny_pure ⟨plainId_quiet PySem.F.plain_list_iadd _, codeAny_builtin entry_list_iadd' ?_⟩
  rw [Around.under_plainId PySem.F.plain_list_iadd _]
  have hS₁ : (s.heap.push { cls := .type "list", data := .seq ([] : List Value).toArray }).get? s.heap.objs.size = some { cls := .type "list", data := .seq #[] } := Heap.get?_push_size _ rfl
  show wpAny _ A.in1 (Builtin.List.listExtendWith (.ref s.heap.objs.size) (.ref r) (.ref s.heap.objs.size)) _ _ _
  have key := kdl_extend (A := A) (s := { s with heap := s.heap.push { cls := .type "list", data := .seq ([] : List Value).toArray } })
    (R := fun (q : Result) (s' : Shared) => ∃ (h' : Heap) (tk : Nat) (acc' : Array Value) (c' : Nat), q = .ok (.ret (.ref s.heap.objs.size)) ∧ s' = { s with heap := h', toks := tk } ∧
      (∀ b o, s.heap.get? b = some o → h'.get? b = some o) ∧ h'.get? s.heap.objs.size = some { cls := .type "list", dict := none, data := .seq acc' c', slots := #[] } ∧ ItemsOf P acc' n)
    K hh (K.keep _ _ hok fun b _ o e => Heap.get?_push_of_some _ e) s.heap.objs.size (Nat.ne_of_gt hlt.1) (Nat.ne_of_gt hlt.2) (.ref s.heap.objs.size) 0 hS₁
    (fun h' tk acc' c' hk hS' hacc => ⟨h', tk, acc', c', rfl, rfl, fun b o e => hk b o (Nat.ne_of_lt (Heap.lt_size e)) (Heap.get?_push_of_some _ e), hS', hacc⟩) hn
  refine wpAny_mono key (fun fin s' x => ?_) fun e s' x => ?_
  · cases fin with
    | done f =>
      obtain ⟨h', tk, acc', c', e, rfl, hk, hS', hacc⟩ := x
      cases e
      show wpAny _ A (load s.heap.objs.size >>= _) _ _ _
      refine wpAny_bind (wpAny_load hS' ?_)
      exact wpAny_pure (h h' tk acc' hk (Heap.lt_size hS') hacc)
    | again c₁ =>
      refine ⟨x.1, codeAny_mono x.2 fun q s₂ y => ?_⟩
      obtain ⟨h', tk, acc', c', rfl, rfl, hk, hS', hacc⟩ := y
      show wpAny _ A (load s.heap.objs.size >>= _) _ _ _
      refine wpAny_bind (wpAny_load hS' ?_)
      exact wpAny_pure (h h' tk acc' hk (Heap.lt_size hS') hacc)
  · obtain ⟨_, _, _, _, e', _⟩ := x
    cases e'

end
end PySem.W
namespace L2
open PySem PySem.Spec PyProof.Rows
section
variable {prog : Program} {w : World} {K : Type} [DecidableEq K] {knd : KeyKind prog w K} {A : Around} {E : Value → Shared → Prop} {s : Shared}
/-- sorted(d), the keys of which are ints -/
theorem sorted_dict {d : Addr} {kvs : List (K × Value)} {ns : List Int} {Q : Value → Shared → Prop} (hh : A.handled = none) (lo : (d == sysModules) = false) (hD : s.heap.DictOf knd d kvs) (h64 : kvs.length < 64)
    (hk : ∀ (i : Nat) (k : K) (x v : Value), kvs[i]? = some (k, x) → knd.is k v = true → ∃ t, v = .int (ns.getD i 0) t) (hl : ns.length = kvs.length)
    (h : ∀ (h' : Heap) (tk : Nat) (p : Addr) (out : Array Value) (e : Nat) (ns' : List Int), (∀ b o, s.heap.get? b = some o → h'.get? b = some o) → s.heap.objs.size ≤ p → h'.get? p = some (seqObj "list" out e) → IntsAre out.toList ns' → ns'.Perm ns → ns'.Pairwise (· ≤ ·) → Q (.ref p) { s with heap := h', toks := tk }) :
    wpAny (model prog w) A (call (.builtin "sorted") [.ref d]) Q E s := by
  obtain ⟨ep, hat⟩ := hD.dictAt
  refine Calls.call_function_entry kind_sorted plain_sorted entry_sorted (args_sorted1 _) ?_
  unfold Builtin.«sorted»
  refine wpAny_bind (m := checkCount "sorted" 1 1 _) (wpAny_pure ?_)
  refine wpAny_bind (PySem.W.dcollect (A := A.in1) (PySem.W.kdl_dict (knd := knd) (kvs := kvs) (ep := ep) lo) (by simp [hh]) hat (leMil (by omega)) fun h1 tk acc hk1 hsz hacc => ?_)
  have hl1 : acc.toList.length = kvs.length := by rw [Array.length_toList]; exact hacc.1
  refine wpAny_bind (wpAny_newList ?_ (by rw [hl1]; exact leMil (by omega)))
  have hoL : (h1.push (seqObj "list" acc.toList.toArray 0)).get? h1.objs.size = some (seqObj "list" acc.toList.toArray 0) := Heap.get?_push_size _ rfl
  have hI : IntsAre acc.toList ns := by
    have key : ∀ (vs : List Value) (ms : List Int), vs.length = ms.length → (∀ (i : Nat) v, vs[i]? = some v → ∃ t, v = .int (ms.getD i 0) t) → IntsAre vs ms := by
      intro vs
      induction vs with
      | nil => intro ms hl _; cases ms with | nil => exact .nil | cons _ _ => cases hl
      | cons v vs ih =>
        intro ms hl hv
        cases ms with
        | nil => cases hl
        | cons m ms =>
          obtain ⟨t, rfl⟩ := hv 0 v rfl
          exact .cons _ _ (ih ms (by simpa using hl) fun i v' hv' => hv (i + 1) v' (by simpa using hv'))
    refine key _ _ (by omega) fun i v hv => ?_
    obtain ⟨k, x, hx, hkv⟩ := hacc.2 i v (by rw [← Array.getElem?_toList]; exact hv)
    exact hk i k x v hx hkv
  refine wpAny_bind (wpAny_holding (wpAny_call_entry slot_list_sort ⟨_, hoL, rfl⟩ entry_list_sort (list_sort_tree hoL hI (by omega) fun out ns' a1 a2 a3 => ⟨_, rfl, ?_⟩) (args_list_sort _)))
  obtain ⟨e, he⟩ := sortedHeap_at (out := out) hoL
  refine wpAny_pure ⟨_, rfl, h _ tk h1.objs.size out e ns' (fun b o eb => ?_) ?_ he a1 a2 a3⟩
  · have hlt : b < h1.objs.size := Heap.lt_size (hk1 b o eb)
    rw [sortedHeap_old (Nat.ne_of_lt hlt) (by rw [size_push']; exact Nat.lt_succ_of_lt hlt)]
    exact Heap.get?_push_of_some _ (hk1 b o eb)
  · exact Nat.le_of_lt hsz
end
end L2
namespace L2
open PySem PySem.Spec PyProof.Rows
section
variable {X : Cx}
theorem lst_vals {ns : List Int} : ∀ {us : List Value}, IntsAre us ns → Vals (ns.map V.int) us := by
  induction ns with
  | nil => intro us r; cases r; exact .nil
  | cons k ks ih =>
    intro us r
    cases r with
    | cons _ t hr => exact .cons ⟨t, rfl⟩ (ih hr)
def rSorted (K : PySem.W.Frag) : List V → Hp → VK → Prop := fun xs H Q => ∃ l, ∃ ns : List Int, xs = [.ref l] ∧ SqL K H l (ns.map V.int) ∧ ns.length < 64 ∧ ∀ p (ns' : List Int) H', Same H H' → H' p = some (.lst (ns'.map V.int)) → ns'.Perm ns → ns'.Pairwise (· ≤ ·) → Q (.ref p) H'
theorem call_sortedL : CallR X (.builtin "sorted") (rSorted X.K) := by
  intro pins s σ H xs us Q I r h
  obtain ⟨l, ns, rfl, hl, h64, q⟩ := h
  obtain ⟨u, rfl, rx⟩ := vals1 r
  cases (show u = Value.ref l from rx)
  obtain ⟨vs, rv, pl, hz⟩ := I.list hl
  have hvl := rv.length
  rw [List.length_map] at hvl
  refine sorted_ints pl.isList (ints_of rv) (by omega) fun out ns' a1 a2 a3 => ?_
  obtain ⟨e, he⟩ := sortedAll_at s.heap vs out
  have hln := a2.length_eq
  refine ⟨.ref (s.heap.objs.size + 1), _, I.laid (t' := s.toks) (a := s.heap.objs.size + 1) (o := .lst (ns'.map V.int)) (fun _ _ q => sortedAll_old q) (Nat.le_succ _) ?_, rfl, q _ ns' _ (same_add (I.hok.fresh (Nat.le_succ _))) upd_same a2 a3⟩
  exact ⟨by rw [List.length_map]; exact leMil (by omega), out.toList, e, lst_vals a1, he⟩
/-- sorted(d), d's keys ints -/
def rSortedD : List V → Hp → VK → Prop := fun xs H Q => ∃ d, ∃ kvs : List (Key × V), ∃ ns : List Int, xs = [.ref d] ∧ H d = some (.dK kvs) ∧ kvs.map (·.1) = ns.map Sum.inl ∧ ns.length < 64 ∧ ∀ p (ns' : List Int) H', Same H H' → H' p = some (.lst (ns'.map V.int)) → ns'.Perm ns → ns'.Pairwise (· ≤ ·) → Q (.ref p) H'
theorem call_sortedD {k : Nat} (hr : Room k X.A) : CallR X (.builtin "sorted") rSortedD := by
  intro pins s σ H xs us Q I r h
  obtain ⟨d, kvs, ns, rfl, hd, hk, h64, q⟩ := h
  obtain ⟨u, rfl, rx⟩ := vals1 r
  cases (show u = Value.ref d from rx)
  obtain ⟨z, lo, vs, rel, dd⟩ := dk_of I.hok hd
  have hvl : kvs.length = vs.length := Paired.length rel
  have hkl : kvs.length = ns.length := by have := congrArg List.length hk; simpa using this
  have hkeys : vs.map (·.1) = ns.map (Sum.inl : Int → Key) := by
    rw [← hk]
    have : ∀ {kvs : List (Key × V)} {vs : List (Key × Value)}, KV kvs vs → vs.map (·.1) = kvs.map (·.1) := by
      intro kvs vs r
      induction r with
      | nil => rfl
      | cons h _ ih => rw [List.map_cons, List.map_cons, ih, h.1]
    exact this rel
  refine sorted_dict (knd := mixKind X.prog X.w) (ns := ns) hr.hd lo dd (by omega) (fun i k x v hi hv => ?_) (by omega) fun h' tk p out e ns' kp hp he a1 a2 a3 => ?_
  · have h1 : (vs.map (·.1))[i]? = some k := by rw [List.getElem?_map, hi]; rfl
    rw [hkeys, List.getElem?_map] at h1
    cases hn : ns[i]? with
    | none => rw [hn] at h1; cases h1
    | some m =>
      rw [hn] at h1
      cases h1
      rw [List.getD_eq_getElem?_getD, hn]
      obtain ⟨t, e⟩ := Value.isInt_shape (k := m) (v := v) hv
      exact ⟨t, e⟩
  · have hln := a2.length_eq
    refine ⟨.ref p, _, I.laid (t' := tk) (a := p) (o := .lst (ns'.map V.int)) kp hp ?_, rfl, q _ ns' _ (same_add (I.hok.fresh hp)) upd_same a2 a3⟩
    exact ⟨by rw [List.length_map]; exact leMil (by omega), out.toList, e, lst_vals a1, he⟩
/-- d.setdefault(k, v) -/
def tDSetD (td ty tx : TE) : TE := fun σ H Q => td σ H fun x H1 => ∃ a, x = .ref a ∧ IsD H1 a ∧ ty σ H1 fun y H2 => tx σ H2 fun z H3 => ∃ kvs k, H3 a = some (.dK kvs) ∧ y = kV k ∧ kvs.length < 100000 ∧ (∀ v, valV kvs k = some v → Q v H3) ∧ (valV kvs k = none → Q z (upd H3 a (.dK (putK kvs k z))))
theorem pe_dsetd {o e f : Expr} {td ty tx : TE} {apos cpos : Pos} (ho : PE X o td) (he : PE X e ty) (hf : PE X f tx) (m : M2 X o "setdefault" apos e f cpos) : PE X (.Call (.Attribute o "setdefault" apos) [e, f] [] cpos) (tDSetD td ty tx) := by
  intro pins s σ H Q I h
  refine wpAny_Call_method m.base m.few m.line PySem.F.plainAttrs_dict PySem.F.slot_dict_setdefault PySem.F.type_dict_setdefault (thn (ho pins s σ H _ I h) fun u s1 ⟨x, H1, I1, rx, a, ex, d, q1⟩ => ?_)
  subst ex
  obtain rfl : u = Value.ref a := rx
  obtain ⟨t1, t2, _⟩ := isD_at I1 d
  refine ⟨t1, t2, ?_⟩
  rw [m.trees]
  refine Calls.callWith_builtin rfl (Calls.evalArgs_plain (Calls.spliced_cons (thn (he pins s1 σ H1 _ I1 q1) fun iv s2 ⟨y, H2, I2, ry, q2⟩ =>
    Calls.spliced_cons (thn (hf pins s2 σ H2 _ I2 q2) fun fv s3 ⟨z, H3, I3, rz, kvs, k, hd, ey, hl, q3, q4⟩ => Calls.spliced_nil ?_))))
  subst ey
  obtain ⟨zz, lo, vs, rel, dd⟩ := dk_of I3.hok hd
  have hz : vs.length ≤ sizeLine := by rw [← rel.length]; exact zz
  refine call_meetsIn PySem.F.slot_dict_setdefault dd.typeIs PySem.F.entry_dict_setdefault (PySem.F.args_dict_setdefault_3 _ _ _) (kt_meets_setdefault (mixKind X.prog X.w) a (kV_is ry) lo fv) ⟨vs, dd, hz, fun v hv => ?_, fun hn h' dd' hs => ?_⟩
  · have rv := rel.val k
    rw [hv] at rv
    cases hk : valV kvs k with
    | none => rw [hk] at rv; exact rv.elim
    | some x => rw [hk] at rv; exact ⟨x, H3, I3.tok _, rv, q3 x hk⟩
  · have rv := rel.val k
    rw [hn] at rv
    have hk : valV kvs k = none := by
      cases hk : valV kvs k with
      | none => rfl
      | some x => rw [hk] at rv; exact rv.elim
    have he : ∃ q, h'.get? a = some q := let ⟨q, _, _, hq, _⟩ := dd'; ⟨q, hq⟩
    have hl' : (putK kvs k z).length ≤ sizeLine := leMil (by have := length_putK kvs k z; omega)
    exact ⟨z, _, d_write I3 (by rw [hd]; exact True.intro) hs he (dk_new hl' lo (rel.put k rz) dd'), rz, q4 hk⟩
end
end L2

set_option linter.all false
namespace My
/-- the drawn number -/
def draw (ns : List Int) (k : Int) : Int :=
  let cell : Int := if ns.length > 0 then ns.getD (k % (ns.length : Int)).toNat 0 % 2147483629 + k / (ns.length : Int) * 7349 + 1 else 2 * k + 1
  let c2 := (cell * 48271 + k * k * 16807 + 3) % 2147483647
  c2 * c2 % 2147483629
theorem draw_nn (ns : List Int) (k : Int) : 0 ≤ draw ns k := Int.emod_nonneg _ (by decide)
theorem draw_lt (ns : List Int) (k : Int) : draw ns k < 2147483629 := Int.emod_lt_of_pos _ (by decide)

theorem step_ne {a d p : Int} (h0 : 0 ≤ a) (h1 : a < p) (h2 : 1 ≤ d) (h3 : d < p) : (a + d) % p ≠ a := by
  by_cases h : a + d < p
  · rw [Int.emod_eq_of_lt (by omega) h]; omega
  · have e : (a + d) % p = a + d - p := by
      have e1 : (a + d - p) % p = (a + d) % p := by rw [Int.sub_emod_right]
      rw [← e1]
      exact Int.emod_eq_of_lt (by omega) (by omega)
    rw [e]; omega
theorem next_ne {n p : Int} (h : 2 ≤ p) : (n + 1) % p ≠ n % p := by
  have h1 := step_ne (a := n % p) (d := 1) (p := p) (Int.emod_nonneg _ (by omega)) (Int.emod_lt_of_pos _ (by omega)) (by omega) (by omega)
  rw [Int.emod_add_emod] at h1
  exact h1
theorem mod_lo {n p : Int} (h : 0 < p) : 0 ≤ n % p := Int.emod_nonneg _ (by omega)
theorem mod_hi {n p : Int} (h : 0 < p) : n % p < p := Int.emod_lt_of_pos _ h

end My

set_option Elab.async false
set_option linter.all false
set_option maxRecDepth 100000
set_option maxHeartbeats 4000000
namespace My
open PySem L2
def top (i : Nat) : Stmt := PySem.Challenge.pw_tintties_k12_chains.main.body.getD i (.Pass ⟨0, 0, 0, 0⟩)
section
variable {P : Program} {w : World} {K : PySem.W.Frag} {mg : Str → Option Value} {base : Heap}
/-! ### _law_draw -/
abbrev sDraw : Stmt := top 7
def spDraw (K : PySem.W.Frag) : Sp := fun vs H Q _ => ∃ (a : Addr) (ns : List Int) (k : Int), vs = [.ref a, .int k] ∧ SqL K H a (ns.map V.int) ∧ ns.length ≤ 63 ∧ 0 ≤ k ∧ k ≤ 1000000 ∧ Q (.int (draw ns k)) H
theorem scDraw : FnScope ["_law_script", "_law_k", "_law_cell"] ["_law_script", "_law_k"] (defScope sDraw) := ⟨rfl, rfl, rfl, by decide +kernel, rfl, by decide +kernel, by decide +kernel⟩
theorem ok_draw {f : Addr} {fd : FuncData} (F : Fun K "_law_draw" "_law_draw" sDraw f fd) (T : Bi mg) : FnOk P w K mg base CX0 1 f fd ["_law_script", "_law_k"] (spDraw K) := by
  refine F.ok scDraw (fun vs H Q E h => ?_) (fun cdv A outer s H vs Q E hr h => ?_)
  · obtain ⟨a, ns, k, rfl, _⟩ := h
    rfl
  · obtain ⟨a, ns, k, rfl, hS, hl, k0, k1, q⟩ := h
    refine ⟨_, pss_cons (ps_set (i := 2) scDraw.nd rfl (Or.inl rfl) (pe_op op_add (pe_op op_mul pe_int (pv 1)) pe_int))
      (pss_cons (ps_if (pt_cmpR op_gt (pe_callB call_len_seq (by rfl) T.len bLen (pa_c (pv 0) pa_nil)) pe_int (nomark _))
        (pss_one (ps_set (i := 2) scDraw.nd rfl (Or.inl rfl) (pe_op op_add (pe_op op_add (pe_op op_mod (pe_ix ix_list (pv 0) (pe_op op_mod (pv 1) (pe_callB call_len_seq (by rfl) T.len bLen (pa_c (pv 0) pa_nil))) (fun _ _ => rfl)) pe_int)
          (pe_op op_mul (pe_op op_fdiv (pv 1) (pe_callB call_len_seq (by rfl) T.len bLen (pa_c (pv 0) pa_nil))) pe_int)) pe_int))) pss_nil)
      (pss_cons (ps_set (i := 2) scDraw.nd rfl (Or.inl rfl) (pe_op op_mod (pe_op op_add (pe_op op_add (pe_op op_mul (pv 2) pe_int) (pe_op op_mul (pe_op op_mul (pv 1) (pv 1)) pe_int)) pe_int) pe_int))
      (pss_one (ps_ret (pe_op op_mod (pe_op op_mul (pv 2) (pv 2)) pe_int))))), ?_⟩
    refine ⟨_, rfl, _, _, rfl, rfl, .inl ⟨by decide, by decide⟩, _, _, rfl, rfl, ?_⟩
    refine ⟨_, rfl, a, _, rfl, .inl hS, _, _, rfl, rfl, _, rfl, ?_⟩
    have last : ∀ c : Int, c = (if ns.length > 0 then ns.getD (k % (ns.length : Int)).toNat 0 % 2147483629 + k / (ns.length : Int) * 7349 + 1 else 2 * k + 1) →
        (tSeq (tAsg (tOp (rI (fun _ j => 0 < j) fun i j => .int (i % j)) (tOp (rI0 fun i j => .int (i + j)) (tOp (rI0 fun i j => .int (i + j)) (tOp (rI CMul fun i j => .int (i * j)) (tVar 2) (tC (.int 48271))) (tOp (rI CMul fun i j => .int (i * j)) (tOp (rI CMul fun i j => .int (i * j)) (tVar 1) (tVar 1)) (tC (.int 16807)))) (tC (.int 3))) (tC (.int 2147483647))) (gName 2))
          (tRet (tOp (rI (fun _ j => 0 < j) fun i j => .int (i % j)) (tOp (rI CMul fun i j => .int (i * j)) (tVar 2) (tVar 2)) (tC (.int 2147483629))))) { nx := fun _ H' => Q .non H', rt := Q } [some (.ref a), some (.int k), some (.int c)] H := by
      intro c hc
      refine ⟨_, rfl, _, _, rfl, rfl, .inr ⟨by decide, by decide⟩, _, rfl, _, rfl, _, _, rfl, rfl, .inl ⟨by omega, by omega⟩, _, _, rfl, rfl, .inr ⟨by decide, by decide⟩, _, _, rfl, rfl, _, _, rfl, rfl, _, _, rfl, rfl, (by show (0 : Int) < 2147483647; decide), ?_⟩
      have b1 := mod_lo (n := c * 48271 + k * k * 16807 + 3) (p := 2147483647) (by decide)
      have b2 := mod_hi (n := c * 48271 + k * k * 16807 + 3) (p := 2147483647) (by decide)
      refine ⟨_, rfl, _, rfl, _, _, rfl, rfl, .inl ⟨by omega, by omega⟩, _, _, rfl, rfl, (by show (0 : Int) < 2147483629; decide), ?_⟩
      have e : (c * 48271 + k * k * 16807 + 3) % 2147483647 * ((c * 48271 + k * k * 16807 + 3) % 2147483647) % 2147483629 = draw ns k := by
        rw [hc]; rfl
      show Q (.int _) H
      rw [e]
      exact q
    refine ite2 (fun hc => ?_) (fun hc => ?_)
    · have hp : 0 < ns.length := by
        have := of_decide_eq_true hc
        rw [List.length_map] at this
        omega
      have hp' : (0 : Int) < ((ns.map V.int).length : Int) := by rw [List.length_map]; omega
      have m1 := mod_lo (n := k) hp'
      have m2 := mod_hi (n := k) hp'
      rw [List.length_map] at m2
      have ix : L2.atI (ns.map V.int) (k % ((ns.map V.int).length : Int)) = some (V.int (ns.getD (k % (ns.length : Int)).toNat 0)) := by
        have e0 : k % ((ns.map V.int).length : Int) = (((k % (ns.length : Int)).toNat : Nat) : Int) := by
          rw [List.length_map] at m1 ⊢
          omega
        rw [e0]
        refine atI_nat ?_
        have hlt : (k % (ns.length : Int)).toNat < ns.length := by
          rw [List.length_map] at m1
          omega
        rw [List.getElem?_map, List.getD_eq_getElem?_getD, List.getElem?_eq_getElem hlt]
        rfl
      refine ⟨_, rfl, _, rfl, _, rfl, a, _, rfl, .inl hS, _, _, rfl, rfl, hp', a, _, _, _, rfl, rfl, hS, ix, _, _, rfl, rfl, (by show (0 : Int) < 2147483629; decide), _, rfl, _, rfl, a, _, rfl, .inl hS, _, _, rfl, rfl, ⟨hp', by rw [List.length_map]; omega⟩, _, _, rfl, rfl, .inr ⟨by decide, by decide⟩, _, _, rfl, rfl, _, _, rfl, rfl, ?_⟩
      refine last _ ?_
      rw [if_pos hp, List.length_map]
    · have hp : ¬ ns.length > 0 := by
        intro z
        refine hc (decide_eq_true ?_)
        rw [List.length_map]
        omega
      refine last _ ?_
      rw [if_neg hp]

/-! ### _law_tie -/
abbrev sTie : Stmt := top 8
abbrev nTie : List Str := ["_law_number", "_law_k", "_law_points", "_law_kind", "_law_one", "_law_other"]
def spTie : Sp := fun vs H Q _ => ∃ n k p kd : Int, vs = [.int n, .int k, .int p, .int kd] ∧ 0 ≤ n ∧ 0 ≤ k ∧ 2 ≤ p ∧ p ≤ 60 ∧
  ∀ (i j : Int) (t : Addr) (H' : Hp), 0 ≤ i → i < p → 0 ≤ j → j < p → i ≠ j → Same H H' → H' t = some (.tup [.int i, .int j]) → Q (.ref t) H'
theorem scTie : FnScope nTie ["_law_number", "_law_k", "_law_points", "_law_kind"] (defScope sTie) := ⟨rfl, rfl, rfl, by decide +kernel, rfl, by decide +kernel, by decide +kernel⟩
theorem ok_tie {f : Addr} {fd : FuncData} (F : Fun K "_law_tie" "_law_tie" sTie f fd) : FnOk P w K mg base CX0 1 f fd ["_law_number", "_law_k", "_law_points", "_law_kind"] spTie := by
  refine F.ok scTie (fun vs H Q E h => ?_) (fun cdv A outer s H vs Q E hr h => ?_)
  · obtain ⟨n, k, p, kd, rfl, _⟩ := h
    rfl
  · obtain ⟨n, k, p, kd, rfl, n0, k0, p2, p60, q⟩ := h
    obtain ⟨t5, h5, r5⟩ : ∃ t, PSs (cxOf CX0 P w K mg base nTie "_law_tie" (defScope sTie) f cdv A outer s H E).nox ((defBody sTie).drop 5) t ∧ ∀ i j : Int, 0 ≤ i → i < p → 0 ≤ j → j < p → i ≠ j →
        t { nx := fun _ H' => Q .non H', rt := Q } [some (.int n), some (.int k), some (.int p), some (.int kd), some (.int i), some (.int j)] H := by
      refine ⟨_, pss_cons (ps_if (pt_cmpR op_eq (pe_op op_mod (pe_op op_fdiv (pv 0) pe_int) pe_int) pe_int (nomark _)) (pss_one (ps_ret (pe_tupS (pa_c (pv 5) (pa_c (pv 4) pa_nil))))) pss_nil) (pss_one (ps_ret (pe_tupS (pa_c (pv 4) (pa_c (pv 5) pa_nil))))), fun i j i0 i1 j0 j1 ne => ?_⟩
      refine ⟨_, rfl, _, _, rfl, rfl, ⟨by decide, by decide⟩, _, _, rfl, rfl, (by show (0 : Int) < 2; decide), rfl, _, rfl, ?_⟩
      refine ite2 (fun _ => ?_) (fun _ => ?_)
      · exact ⟨_, rfl, _, rfl, rfl, fun t H' s' ht => q j i t H' j0 j1 i0 i1 (Ne.symm ne) s' ht⟩
      · exact ⟨_, rfl, _, rfl, rfl, fun t H' s' ht => q i j t H' i0 i1 j0 j1 ne s' ht⟩
    have m1 := mod_lo (n := n / 64) (p := p - 1) (by omega)
    have m2 := mod_hi (n := n / 64) (p := p - 1) (by omega)
    obtain ⟨t4, h4, r4⟩ : ∃ t, PSs (cxOf CX0 P w K mg base nTie "_law_tie" (defScope sTie) f cdv A outer s H E).nox ((defBody sTie).drop 4) t ∧ ∀ i j : Int, 0 ≤ i → i < p → 0 ≤ j → j < p → i ≠ j →
        t { nx := fun _ H' => Q .non H', rt := Q } [some (.int n), some (.int k), some (.int p), some (.int kd), some (.int i), some (.int j)] H := by
      refine ⟨_, pss_cons (ps_if (pt_cmpR op_eq (pv 3) pe_int (nomark _)) (pss_cons (ps_set (i := 4) scTie.nd rfl (Or.inl rfl) pe_int) (pss_one (ps_set (i := 5) scTie.nd rfl (Or.inl rfl) (pe_op op_add pe_int (pe_op op_mod (pe_op op_fdiv (pv 0) pe_int) (pe_op op_sub (pv 2) pe_int)))))) pss_nil) h5, fun i j i0 i1 j0 j1 ne => ?_⟩
      refine ⟨_, rfl, rfl, _, rfl, ?_⟩
      refine ite2 (fun _ => ?_) (fun _ => ?_)
      · exact ⟨_, rfl, _, _, rfl, rfl, ⟨by decide, by decide⟩, _, rfl, _, _, rfl, rfl, _, _, rfl, rfl, (by show (0 : Int) < p - 1; omega), _, _, rfl, rfl, r5 0 _ (by omega) (by omega) (by omega) (by omega) (by omega)⟩
      · exact r5 i j i0 i1 j0 j1 ne
    obtain ⟨t3, h3, r3⟩ : ∃ t, PSs (cxOf CX0 P w K mg base nTie "_law_tie" (defScope sTie) f cdv A outer s H E).nox ((defBody sTie).drop 3) t ∧ ∀ i j : Int, 0 ≤ i → i < p → 0 ≤ j → j < p → i ≠ j →
        t { nx := fun _ H' => Q .non H', rt := Q } [some (.int n), some (.int k), some (.int p), some (.int kd), some (.int i), some (.int j)] H := by
      refine ⟨_, pss_cons (ps_if (PW.pt (pw_and (pt_cmpR op_eq (pv 3) pe_int (nomark _)) (pw_and1 (pt_cmpR op_lt (pv 1) (pv 2) (nomark _))))) (pss_cons (ps_set (i := 4) scTie.nd rfl (Or.inl rfl) (pv 1)) (pss_one (ps_set (i := 5) scTie.nd rfl (Or.inl rfl) (pe_op op_mod (pe_op op_add (pv 1) pe_int) (pv 2))))) pss_nil) h4, fun i j i0 i1 j0 j1 ne => ?_⟩
      refine ⟨_, rfl, rfl, _, rfl, ?_⟩
      refine ite2 (fun _ => ?_) (fun _ => ?_)
      · refine ⟨_, rfl, _, rfl, _, _, rfl, rfl, _, rfl, ?_⟩
        refine ite2 (fun hz => ?_) (fun _ => ?_)
        · have hk : k < p := of_decide_eq_true hz
          have e : k % p = k := Int.emod_eq_of_lt k0 hk
          refine ⟨_, rfl, ?_⟩
          refine ⟨_, rfl, _, _, rfl, rfl, _, rfl, _, _, rfl, rfl, (by show (0 : Int) < p; omega), r4 k _ k0 hk (mod_lo (by omega)) (mod_hi (by omega)) (fun z => next_ne (n := k) p2 (by rw [← z, e]))⟩
        · exact r4 i j i0 i1 j0 j1 ne
      · exact iteF (r4 i j i0 i1 j0 j1 ne)
    refine ⟨_, pss_cons (ps_set (i := 4) scTie.nd rfl (Or.inl rfl) (pe_op op_mod (pv 0) (pv 2)))
      (pss_cons (ps_set (i := 5) scTie.nd rfl (Or.inl rfl) (pe_op op_mod (pe_op op_add (pe_op op_add (pv 4) pe_int) (pe_op op_mod (pe_op op_fdiv (pv 0) pe_int) (pe_op op_sub (pv 2) pe_int))) (pv 2)))
      (pss_cons (ps_if (pt_cmpR op_eq (pv 3) pe_int (nomark _)) (pss_cons (ps_set (i := 4) scTie.nd rfl (Or.inl rfl) (pe_op op_mod (pv 0) (pe_op op_fdiv (pv 2) pe_int)))
        (pss_one (ps_set (i := 5) scTie.nd rfl (Or.inl rfl) (pe_op op_add (pe_op op_fdiv (pv 2) pe_int) (pe_op op_mod (pe_op op_fdiv (pv 0) pe_int) (pe_op op_sub (pv 2) (pe_op op_fdiv (pv 2) pe_int))))))) pss_nil) h3)), ?_⟩
    have a1 := mod_lo (n := n) (p := p) (by omega)
    have a2 := mod_hi (n := n) (p := p) (by omega)
    refine ⟨_, rfl, _, rfl, _, _, rfl, rfl, (by show (0 : Int) < p; omega), ?_⟩
    refine ⟨_, rfl, _, _, rfl, rfl, _, rfl, _, _, rfl, rfl, ⟨by decide, by decide⟩, _, rfl, _, _, rfl, rfl, _, _, rfl, rfl, (by show (0 : Int) < p - 1; omega), _, _, rfl, rfl, _, rfl, _, _, rfl, rfl, (by show (0 : Int) < p; omega), ?_⟩
    have ne : n % p ≠ (n % p + 1 + n / 64 % (p - 1)) % p := fun z => by
      refine step_ne (a := n % p) (d := 1 + n / 64 % (p - 1)) (p := p) a1 a2 (by omega) (by omega) ?_
      rw [← Int.add_assoc]
      exact z.symm
    refine ⟨_, rfl, rfl, _, rfl, ?_⟩
    refine ite2 (fun _ => ?_) (fun _ => ?_)
    · have b1 := mod_lo (n := n) (p := p / 2) (by omega)
      have b2 := mod_hi (n := n) (p := p / 2) (by omega)
      have b3 := mod_lo (n := n / 64) (p := p - p / 2) (by omega)
      have b4 := mod_hi (n := n / 64) (p := p - p / 2) (by omega)
      refine ⟨_, rfl, _, rfl, _, _, rfl, rfl, ⟨by decide, by decide⟩, _, _, rfl, rfl, (by show (0 : Int) < p / 2; omega), ?_⟩
      exact ⟨_, rfl, _, _, rfl, rfl, ⟨by decide, by decide⟩, _, rfl, _, _, rfl, rfl, ⟨by decide, by decide⟩, _, rfl, _, rfl, _, _, rfl, rfl, ⟨by decide, by decide⟩, _, _, rfl, rfl, _, _, rfl, rfl, (by show (0 : Int) < p - p / 2; omega), _, _, rfl, rfl, r3 _ _ (by omega) (by omega) (by omega) (by omega) (by omega)⟩
    · exact r3 _ _ a1 a2 (mod_lo (by omega)) (mod_hi (by omega)) ne
end
end My

set_option Elab.async false
set_option linter.all false
set_option maxRecDepth 100000
set_option maxHeartbeats 4000000
namespace My
open PySem L2
def compScope : Expr → Scope
  | .ListComp _ _ s _ => s
  | .Call _ [e] _ _ => compScope e
  | .Tuple [_, e] _ _ => compScope e
  | .BinOp _ _ e _ => compScope e
  | .Compare a _ _ _ => compScope a
  | _ => { kind := .function, names := [], isGenerator := false, isCoroutine := false }
def retE : Stmt → Expr
  | .Return (some e) _ => e
  | .Assign _ e _ => e
  | _ => .Constant .none 0 ⟨0, 0, 0, 0⟩
def stOf (i k : Nat) : Stmt := (defBody (top i)).getD k (.Pass ⟨0,0,0,0⟩)
section
variable {P : Program} {w : World} {K : PySem.W.Frag} {mg : Str → Option Value} {base : Heap}
/-! ### _law_net -/
abbrev sNet : Stmt := top 9
abbrev netScope : Scope := compScope (retE (stOf 9 5))
abbrev nNet : List Str := ["_law_script", "_law_at", "_law_points", "_law_kind", "_law_many"]
def spNet (K : PySem.W.Frag) : Sp := fun vs H Q _ => ∃ (a : Addr) (ns : List Int), vs = [.ref a, .int 8] ∧ SqL K H a (ns.map V.int) ∧ ns.length ≤ 63 ∧
  ∀ (H' : Hp) (p : Addr) (n : Nat) (q : Addr) (ts : List V) (es : List (Nat × Nat)), Same H H' → NetZ H' p n q ts es → 2 ≤ n → es.length ≤ 40 → Q (.ref p) H'
theorem ndNet : (["_law_k", "_law_at", "_law_kind", "_law_points", "_law_script"] : List Str).Nodup := by decide +kernel
theorem scNet : FnScope nNet ["_law_script", "_law_at"] (defScope sNet) := ⟨rfl, rfl, rfl, by decide +kernel, rfl, by decide +kernel, by decide +kernel⟩
theorem blkNet {f : Addr} {cdv : Value} {A : Around} {outer : List Env} {s : Shared} {H : Hp} {E : XK} :
    Blk (cxOf CX0 P w K mg base nNet "_law_net" (defScope sNet) f cdv A outer s H E).nox netScope [("_law_script", s.heap.objs.size + 1), ("_law_points", s.heap.objs.size + 3), ("_law_kind", s.heap.objs.size + 4), ("_law_at", s.heap.objs.size + 2)]
      ["_law_k", "_law_at", "_law_kind", "_law_points", "_law_script"] [none, some 1, some 3, some 2, some 0] := by
  refine ⟨rfl, rfl, by decide +kernel, by decide +kernel, fun p hp => ?_, fun y hy e => ?_, ⟨rfl, rfl, rfl⟩, ⟨rfl, rfl, rfl⟩, ⟨rfl, rfl, rfl⟩, ⟨rfl, rfl, rfl⟩, trivial⟩
  · simp only [List.mem_cons, List.not_mem_nil, or_false] at hp
    rcases hp with rfl | rfl | rfl | rfl <;> rfl
  · have hy' : y ∈ [((PySem.Str.ofString ".0" : Str), NameKind.local), (PySem.Str.ofString "_law_k", .local), (PySem.Str.ofString "_law_tie", .globalImplicit), (PySem.Str.ofString "_law_draw", .globalImplicit), (PySem.Str.ofString "_law_at", .free), (PySem.Str.ofString "_law_kind", .free), (PySem.Str.ofString "_law_points", .free), (PySem.Str.ofString "_law_script", .free)] := hy
    simp only [List.mem_cons, List.not_mem_nil, or_false] at hy'
    rcases hy' with rfl | rfl | rfl | rfl | rfl | rfl | rfl | rfl <;> first | rfl | cases e
theorem ok_net {f : Addr} {fd : FuncData} (F : Fun K "_law_net" "_law_net" sNet f fd) (T : Bi mg) (FD : FnE P w K mg base "_law_draw" ["_law_script", "_law_k"] 1 (spDraw K)) (FT : FnE P w K mg base "_law_tie" ["_law_number", "_law_k", "_law_points", "_law_kind"] 1 spTie) : FnOk P w K mg base CX0 2 f fd ["_law_script", "_law_at"] (spNet K) := by
  refine F.ok scNet (fun vs H Q E h => ?_) (fun cdv A outer s H vs Q E hr h => ?_)
  · obtain ⟨a, ns, rfl, _⟩ := h
    rfl
  · obtain ⟨a, ns, rfl, hS, hl, q⟩ := h
    obtain ⟨t4, h4, r4⟩ : ∃ t, PSs (cxOf CX0 P w K mg base nNet "_law_net" (defScope sNet) f cdv A outer s H E).nox ((defBody sNet).drop 4) t ∧ ∀ pt kd : Int, 2 ≤ pt → pt ≤ 60 →
        t { nx := fun _ H' => Q .non H', rt := Q } [some (.ref a), some (.int 8), some (.int pt), some (.int kd), none] H := by
      refine ⟨_, pss_cons (ps_set (i := 4) scNet.nd rfl (Or.inl rfl) (pe_callB (call_max2 rfl) rfl T.max bMax (pa_c (pe_op op_mod (pe_fc FD hr (pa_c (pv 0) (pa_c (pe_op op_add (pv 1) pe_int) pa_nil))) pe_int) (pa_c (pe_callB (call_min2 rfl) rfl T.min bMin (pa_c (pe_callB call_len_seq rfl T.len bLen (pa_c (pv 0) pa_nil)) (pa_c pe_int pa_nil))) pa_nil))))
        (pss_one (ps_ret (pe_tupS (pa_c (pv 2) (pa_c (pe_callTy call_tuple_ofS rfl T.tuple bTuple (pa_c (pe_lcR blkNet rfl rfl T.range (pa_c (pv 4) pa_nil) (monoA_cons (mono_var 4) monoA_nil) rfl (fun C fp s H => pg_name (i := 0) ndNet rfl (Or.inl rfl)) (fun C fp s H => pts_nil)
          (fun C fp s H => pe_fc FT hr (pa_c (pe_fc FD hr (pa_c (pv 4) (pa_c (pe_op op_add (pe_op op_add (pv 1) pe_int) (pv 0)) pa_nil))) (pa_c (pv 0) (pa_c (pv 3) (pa_c (pv 2) pa_nil)))))) pa_nil)) pa_nil))))), fun pt kd p2 p60 => ?_⟩
      refine ⟨_, rfl, _, rfl, _, _, rfl, rfl, a, ns, _, rfl, hS, hl, by decide, by decide, _, _, rfl, rfl, (by show (0 : Int) < 12; decide), _, rfl, a, _, rfl, .inl hS, _, _, rfl, _, _, rfl, ?_⟩
      have d1 := mod_lo (n := draw ns (8 + 2)) (p := 12) (by decide)
      have d2 := mod_hi (n := draw ns (8 + 2)) (p := 12) (by decide)
      obtain ⟨mm, hmm, hm40⟩ : ∃ m : Nat, (if (if (40 : Int) < (((ns.map V.int).length : Nat) : Int) then 40 else (((ns.map V.int).length : Nat) : Int)) > draw ns (8 + 2) % 12 then (if (40 : Int) < (((ns.map V.int).length : Nat) : Int) then 40 else (((ns.map V.int).length : Nat) : Int)) else draw ns (8 + 2) % 12) = (m : Int) ∧ m ≤ 40 := by
        refine ⟨(if (if (40 : Int) < (((ns.map V.int).length : Nat) : Int) then 40 else (((ns.map V.int).length : Nat) : Int)) > draw ns (8 + 2) % 12 then (if (40 : Int) < (((ns.map V.int).length : Nat) : Int) then 40 else (((ns.map V.int).length : Nat) : Int)) else draw ns (8 + 2) % 12).toNat, ?_, ?_⟩
        · rw [Int.toNat_of_nonneg]
          split <;> (try split) <;> omega
        · split <;> (try split) <;> omega
      rw [hmm]
      refine ⟨_, rfl, _, rfl, mm, rfl, by omega, fun i ys σ H' => Same H H' ∧ ys.length = i ∧ Ties H' pt ys ∧ ∃ v0, σ = [v0, some (.int 8), some (.int kd), some (.int pt), some (.ref a)], ⟨Same.refl H, rfl, (fun t ht => by cases ht), none, rfl⟩, fun i ys σ H' hi ⟨_, e, _⟩ => by omega, fun i ys σ H' hi ⟨s1, e1, hT, v0, e⟩ => ?_, fun ys σ H' ⟨s1, e1, hT, _⟩ l H2 s2 hl2 => ?_⟩
      · subst e
        dsimp only [gName, tTrue]
        refine iteT ⟨_, rfl, _, rfl, _, _, rfl, rfl, _, rfl, _, _, rfl, rfl, a, ns, _, rfl, s1.seq hS, hl, by omega, by omega, _, rfl, _, rfl, _, rfl, _, _, _, _, rfl, draw_nn _ _, by omega, p2, p60, fun x y t H3 x0 x1 y0 y1 ne s3 ht => ⟨Same.trans s1 s3, by rw [List.length_append, e1]; rfl, fun u hu => ?_, _, rfl⟩⟩
        rcases List.mem_append.mp hu with z | z
        · exact (hT u z).same s3
        · rw [List.mem_singleton.mp z]
          exact ⟨t, x, y, rfl, ht, x0, x1, y0, y1, ne⟩
      · refine ⟨l, _, rfl, .inl hl2, fun u H3 s3 hu => ⟨rfl, fun p H4 s4 hp => ?_⟩⟩
        have sA : Same H' H4 := Same.trans (Same.trans s2 s3) s4
        obtain ⟨es, N⟩ := netZ_of (n := pt) hp (s4 _ _ hu) (by omega) (hT.same sA) (by omega) (by omega) (Int.le_refl _)
        exact q H4 p _ u _ es (Same.trans s1 sA) N (by omega) (by have := N.len; omega)
    obtain ⟨t3, h3, r3⟩ : ∃ t, PSs (cxOf CX0 P w K mg base nNet "_law_net" (defScope sNet) f cdv A outer s H E).nox ((defBody sNet).drop 3) t ∧ ∀ pt kd : Int, 2 ≤ pt → pt ≤ 60 →
        t { nx := fun _ H' => Q .non H', rt := Q } [some (.ref a), some (.int 8), some (.int pt), some (.int kd), none] H := by
      refine ⟨_, pss_cons (ps_if (pt_cmpR op_eq (pv 3) pe_int (nomark _)) (pss_one (ps_set (i := 2) scNet.nd rfl (Or.inr rfl) pe_int)) pss_nil) h4, fun pt kd p2 p60 => ?_⟩
      refine ⟨_, rfl, rfl, _, rfl, ?_⟩
      refine ite2 (fun _ => ?_) (fun _ => ?_)
      · exact r4 60 kd (by decide) (by decide)
      · exact r4 pt kd p2 p60
    refine ⟨_, pss_cons (ps_set (i := 2) scNet.nd rfl (Or.inr rfl) (pe_op op_add pe_int (pe_op op_mod (pe_fc FD hr (pa_c (pv 0) (pa_c (pv 1) pa_nil))) pe_int)))
      (pss_cons (ps_set (i := 3) scNet.nd rfl (Or.inr rfl) (pe_op op_mod (pe_fc FD hr (pa_c (pv 0) (pa_c (pe_op op_add (pv 1) pe_int) pa_nil))) pe_int))
      (pss_cons (ps_if (pt_cmpR op_eq (pv 3) pe_int (nomark _)) (pss_one (ps_set (i := 2) scNet.nd rfl (Or.inr rfl) (pe_op op_add pe_int (pe_op op_mod (pv 2) pe_int)))) pss_nil) h3)), ?_⟩
    have d1 := mod_lo (n := draw ns 8) (p := 12) (by decide)
    have d2 := mod_hi (n := draw ns 8) (p := 12) (by decide)
    have d3 := mod_lo (n := 2 + draw ns 8 % 12) (p := 3) (by decide)
    have d4 := mod_hi (n := 2 + draw ns 8 % 12) (p := 3) (by decide)
    refine ⟨_, rfl, _, rfl, a, ns, _, rfl, hS, hl, by decide, by decide, _, _, rfl, rfl, (by show (0 : Int) < 12; decide), _, _, rfl, rfl, ?_⟩
    refine ⟨_, rfl, _, rfl, _, _, rfl, rfl, a, ns, _, rfl, hS, hl, by decide, by decide, _, _, rfl, rfl, (by show (0 : Int) < 6; decide), ?_⟩
    refine ⟨_, rfl, rfl, _, rfl, ?_⟩
    refine ite2 (fun _ => ?_) (fun _ => ?_)
    · exact ⟨_, rfl, _, _, rfl, rfl, (by show (0 : Int) < 3; decide), _, _, rfl, rfl, r3 _ _ (by omega) (by omega)⟩
    · exact r3 _ _ (by omega) (by omega)
end
end My

set_option Elab.async false
set_option linter.all false
set_option maxRecDepth 100000
set_option maxHeartbeats 4000000
namespace My
open PySem L2
def forB : Stmt → List Stmt
  | .For _ _ b _ _ => b
  | _ => []
section
variable {P : Program} {w : World} {K : PySem.W.Frag} {mg : Str → Option Value} {base : Heap}
/-! ### _law_tints -/
abbrev sTs : Stmt := top 10
abbrev nTs : List Str := ["_law_script", "_law_at", "_law_net_here", "_law_many", "_law_taken", "_law_found", "_law_k", "_law_number", "_law_mine", "_law_step", "_law_tint"]
def spTs (K : PySem.W.Frag) : Sp := fun vs H Q _ => ∃ (a : Addr) (ns : List Int) (p : Addr) (n : Nat) (q : Addr) (ts : List V) (es : List (Nat × Nat)) (m : Nat), vs = [.ref a, .int 100, .ref p, .int (m : Int)] ∧ SqL K H a (ns.map V.int) ∧ ns.length ≤ 63 ∧ NetZ H p n q ts es ∧ 1 ≤ m ∧ m ≤ 1000 ∧
  ∀ (H' : Hp) (l : Addr) (tl : List (Option Nat)), Same H H' → H' l = some (.lst (tv tl)) → H l = none → tl.length = es.length → (∀ t, some t ∈ tl → t < m) → CleanTo es tl es.length → Q (.ref l) H'
theorem scTs : FnScope nTs ["_law_script", "_law_at", "_law_net_here", "_law_many"] (defScope sTs) := ⟨rfl, rfl, rfl, by decide +kernel, rfl, by decide +kernel, by decide +kernel⟩
theorem ok_ts {f : Addr} {fd : FuncData} (F : Fun K "_law_tints" "_law_tints" sTs f fd) (T : Bi mg) (FD : FnE P w K mg base "_law_draw" ["_law_script", "_law_k"] 1 (spDraw K)) : FnOk P w K mg base CX0 2 f fd ["_law_script", "_law_at", "_law_net_here", "_law_many"] (spTs K) := by
  refine F.ok scTs (fun vs H Q E h => ?_) (fun cdv A outer s H vs Q E hr h => ?_)
  · obtain ⟨a, ns, p, n, q, ts, es, m, rfl, _⟩ := h
    rfl
  · obtain ⟨a, ns, p, n, qa, ts, es, m, rfl, hS, hl, N, m1, m1000, q⟩ := h
    have hu := hu_of hr
    obtain ⟨tT, hTT, rT⟩ : ∃ t, PSs (cxOf CX0 P w K mg base nTs "_law_tints" (defScope sTs) f cdv A outer s H E).nox ((forB (stOf 10 2)).drop 3) t ∧
        ∀ (D : Ends) (k : Nat) (kvs : List (List Key × V)) (tl : List (Option Nat)) (mine : Option Nat) (G : Hp) (v7 v9 v10 : Option V) {d l tk : Addr}, k < es.length → ts[k]? = some (.ref tk) → H tk = some (.tup [.int ((es.getD k (0, 0)).1 : Int), .int ((es.getD k (0, 0)).2 : Int)]) →
          Same H G → G d = some (.dT kvs) → G l = some (.lst (tv tl)) → kvs.length ≤ 2 * k → tl.length = k → (∀ t, some t ∈ tl → t < m) → CleanTo es tl k → Keys kvs (Used es tl k) → (∀ t, mine = some t → t < m ∧ ¬ Used es tl k (es.getD k (0, 0)).1 t ∧ ¬ Used es tl k (es.getD k (0, 0)).2 t) → H d = none → H l = none →
          (∀ (G' : Hp) (kvs' : List (List Key × V)) (tl' : List (Option Nat)), Same H G' → G' d = some (.dT kvs') → G' l = some (.lst (tv tl')) → kvs'.length ≤ 2 * (k + 1) → tl'.length = k + 1 → (∀ t, some t ∈ tl' → t < m) → CleanTo es tl' (k + 1) → Keys kvs' (Used es tl' (k + 1)) →
            D.nx [some (.ref a), some (.int 100), some (.ref p), some (.int (m : Int)), some (.ref d), some (.ref l), some (.int (0 + (k : Int))), v7, some (tN mine), v9, v10] G') →
          t D [some (.ref a), some (.int 100), some (.ref p), some (.int (m : Int)), some (.ref d), some (.ref l), some (.int (0 + (k : Int))), v7, some (tN mine), v9, v10] G := by
      refine ⟨_, (pss_cons (ps_if (pt_cmpR op_notN (pv 8) pe_non (nomark _))
          (pss_cons (ps_dput hu (pv 4) (pe_tupS (pa_c (pe_ix ix_tup (pe_ix ix_tup (pe_ix ix_tup (pv 2) pe_int (fun _ _ => rfl)) (pv 6) (fun _ _ => rfl)) pe_int (fun _ _ => rfl)) (pa_c (pv 8) pa_nil))) pe_bl rfl)
          (pss_one (ps_dput hu (pv 4) (pe_tupS (pa_c (pe_ix ix_tup (pe_ix ix_tup (pe_ix ix_tup (pv 2) pe_int (fun _ _ => rfl)) (pv 6) (fun _ _ => rfl)) pe_int (fun _ _ => rfl)) (pa_c (pv 8) pa_nil))) pe_bl rfl))) pss_nil)
        (pss_one (ps_expr (pe_bm PySem.F.plainAttrs_list PySem.F.slot_list_append PySem.F.type_list_append mt_append (pv 5) (pa_c (pv 8) pa_nil))))), fun D k kvs tl mine G v7 v9 v10 {d l tk} hke htk hta sG gD gL hkv htl hb hC hK gm hd hlH fin => ?_⟩
      have h200 := N.l200
      have hgl : tl[k]? = none := List.getElem?_eq_none (by omega)
      have happ : (tl ++ [mine])[k]? = some mine := by rw [List.getElem?_append_right (by omega), htl, Nat.sub_self]; rfl
      have tvapp : tv tl ++ [tN mine] = tv (tl ++ [mine]) := by unfold tv; rw [List.map_append]; rfl
      have hsz : (tv tl).length < sizeLine := by rw [tv_len, sizeLine_eq]; omega
      refine ⟨_, rfl, rfl, _, rfl, ?_⟩
      cases mine with
      | none =>
        refine iteF ?_
        refine ⟨_, rfl, .inl ⟨rfl, _, SqL.of gL⟩, _, rfl, l, _, _, rfl, rfl, gL, hsz, ?_⟩
        rw [show (V.non : V) = tN none from rfl, tvapp]
        have hdl : d ≠ l := fun z => by rw [z, gL] at gD; cases gD
        refine fin _ kvs (tl ++ [none]) (sG.wr hlH) (by rw [upd_ne hdl]; exact gD) upd_same (by omega) (by rw [List.length_append, htl]; rfl) (fun t ht => ?_) ((hC.app (by omega)).succ fun t z => ?_) (hK.iff fun x t => ?_)
        · rcases List.mem_append.mp ht with z | z
          · exact hb t z
          · rw [List.mem_singleton] at z; cases z
        · rw [happ] at z; cases z
        · rw [Used.succ, Used.app (by omega), happ]
          exact ⟨.inl, fun z => z.elim id fun ⟨z1, _⟩ => by cases z1⟩
      | some t =>
        obtain ⟨tm, nu1, nu2⟩ := gm t rfl
        refine iteT ?_
        have hdl : d ≠ l := fun z => by rw [z, gL] at gD; cases gD
        refine ⟨_, rfl, _, rfl, p, _, _, _, rfl, rfl, SqT.of (sG _ _ N.e1), rfl, _, rfl, qa, _, _, _, rfl, rfl, SqT.of (sG _ _ N.e2), (by rw [Int.zero_add]; exact atI_nat htk), tk, _, _, _, rfl, rfl, SqT.of (sG _ _ hta), rfl, _, rfl, rfl, fun t1 G1 u1 h1 => ⟨d, _, rfl, DPut.t (k := ky (es.getD k (0, 0)).1 t) (u1 _ _ gD) h1 (by rw [sizeLine_eq]; omega), ?_⟩⟩
        have l1 := length_putK kvs (ky (es.getD k (0, 0)).1 t) (V.bl true)
        have s1 : Same H (upd G1 d (.dT (putK kvs (ky (es.getD k (0, 0)).1 t) (V.bl true)))) := (Same.trans sG u1).wr hd
        refine ⟨_, rfl, _, rfl, p, _, _, _, rfl, rfl, SqT.of (s1 _ _ N.e1), rfl, _, rfl, qa, _, _, _, rfl, rfl, SqT.of (s1 _ _ N.e2), (by rw [Int.zero_add]; exact atI_nat htk), tk, _, _, _, rfl, rfl, SqT.of (s1 _ _ hta), rfl, _, rfl, rfl, fun t2 G2 u2 h2 => ⟨d, _, rfl, DPut.t (k := ky (es.getD k (0, 0)).2 t) (u2 _ _ upd_same) h2 (by rw [sizeLine_eq]; omega), ?_⟩⟩
        have l2 := length_putK (putK kvs (ky (es.getD k (0, 0)).1 t) (V.bl true)) (ky (es.getD k (0, 0)).2 t) (V.bl true)
        have gL2 : (upd G2 d (.dT (putK (putK kvs (ky (es.getD k (0, 0)).1 t) (V.bl true)) (ky (es.getD k (0, 0)).2 t) (V.bl true)))) l = some (.lst (tv tl)) := by
          rw [upd_ne (Ne.symm hdl)]
          exact u2 _ _ (by rw [upd_ne (Ne.symm hdl)]; exact u1 _ _ gL)
        refine ⟨_, rfl, .inl ⟨rfl, _, SqL.of gL2⟩, _, rfl, l, _, _, rfl, rfl, gL2, hsz, ?_⟩
        rw [tvapp]
        refine fin _ _ (tl ++ [some t]) (((Same.trans s1 u2).wr hd).wr hlH) (by rw [upd_ne hdl, upd_same]) upd_same (by omega) (by rw [List.length_append, htl]; rfl) (fun t' ht => ?_) ((hC.app (by omega)).succ fun t' z x hx => ?_) (((hK.put _ _ _).put _ _ _).iff fun x t' => ?_)
        · rcases List.mem_append.mp ht with z | z
          · exact hb t' z
          · rw [List.mem_singleton] at z; cases z; exact tm
        · rw [happ] at z
          cases z
          rw [Used.app (by omega)]
          rcases hx with rfl | rfl
          · exact nu1
          · exact nu2
        · rw [Used.succ, Used.app (by omega), happ]
          constructor
          · rintro ((z | ⟨rfl, rfl⟩) | ⟨rfl, rfl⟩)
            · exact .inl z
            · exact .inr ⟨rfl, .inl rfl⟩
            · exact .inr ⟨rfl, .inr rfl⟩
          · rintro (z | ⟨z, hx⟩)
            · exact .inl (.inl z)
            · cases z
              rcases hx with rfl | rfl
              · exact .inl (.inr ⟨rfl, rfl⟩)
              · exact .inr ⟨rfl, rfl⟩
    refine ⟨_, pss_cons (ps_set (i := 4) scTs.nd rfl (Or.inl rfl) pe_dnewT)
      (pss_cons (ps_set (i := 5) scTs.nd rfl (Or.inl rfl) (pe_lst pa_nil))
      (pss_cons (ps_for PassesOwn.never rfl (pi_range1 rfl T.range (pa_c (pe_callB call_len_seq rfl T.len bLen (pa_c (pe_ix ix_tup (pv 2) pe_int (fun _ _ => rfl)) pa_nil)) pa_nil)) (pg_name (i := 6) scTs.nd rfl (Or.inl rfl))
        (pss_cons (ps_set (i := 7) scTs.nd rfl (Or.inl rfl) (pe_fc FD hr (pa_c (pv 0) (pa_c (pe_op op_add (pv 1) (pv 6)) pa_nil))))
        (pss_cons (ps_set (i := 8) scTs.nd rfl (Or.inl rfl) pe_non)
        (pss_cons (ps_if (pt_cmpR op_gt (pe_op op_mod (pv 7) pe_int) pe_int (nomark _))
          (pss_one (ps_for PassesOwn.never rfl (pi_range1 rfl T.range (pa_c (pv 3) pa_nil)) (pg_name (i := 9) scTs.nd rfl (Or.inl rfl))
            (pss_cons (ps_set (i := 10) scTs.nd rfl (Or.inl rfl) (pe_op op_mod (pe_op op_add (pe_op op_fdiv (pv 7) pe_int) (pv 9)) (pv 3)))
            (pss_one (ps_if (PW.pt (pw_and (pt_cmpR op_isN (pv 8) pe_non (nomark _))
              (pw_and (pt_cmp (pc_dnotin hu (pe_tupS (pa_c (pe_ix ix_tup (pe_ix ix_tup (pe_ix ix_tup (pv 2) pe_int (fun _ _ => rfl)) (pv 6) (fun _ _ => rfl)) pe_int (fun _ _ => rfl)) (pa_c (pv 10) pa_nil))) (pv 4)))
              (pw_and1 (pt_cmp (pc_dnotin hu (pe_tupS (pa_c (pe_ix ix_tup (pe_ix ix_tup (pe_ix ix_tup (pv 2) pe_int (fun _ _ => rfl)) (pv 6) (fun _ _ => rfl)) pe_int (fun _ _ => rfl)) (pa_c (pv 10) pa_nil))) (pv 4)))))))
              (pss_one (ps_set (i := 8) scTs.nd rfl (Or.inl rfl) (pv 10))) pss_nil))))) pss_nil)
        hTT))))
      (pss_one (ps_ret (pv 5))))), ?_⟩
    have h200 := N.l200
    have hlen := N.len
    intro d hd
    refine ⟨Nat.zero_le _, fun l hl0 => ?_⟩
    have hdl : d ≠ l := fun z => by subst z; rw [upd_same] at hl0; cases hl0
    have hlH : H l = none := (same_new hd).none hl0
    have s0 : Same H (upd (upd H d (.dT [])) l (.lst [])) := (same_new hd).wr hlH
    refine ⟨_, rfl, p, _, _, _, rfl, rfl, SqT.of (s0 _ _ N.e1), rfl, qa, _, rfl, .inr (SqT.of (s0 _ _ N.e2)), _, rfl, by omega, by omega, for_range (lo := 0) (n := ((ts.length : Nat) : Int).toNat) (fun k σ H' => ∃ kvs tl v6 v7 v8 v9 v10, σ = [some (.ref a), some (.int 100), some (.ref p), some (.int (m : Int)), some (.ref d), some (.ref l), v6, v7, v8, v9, v10] ∧ Same H H' ∧ H' d = some (.dT kvs) ∧ H' l = some (.lst (tv tl)) ∧ kvs.length ≤ 2 * k ∧ tl.length = k ∧ (∀ t, some t ∈ tl → t < m) ∧ CleanTo es tl k ∧ Keys kvs (Used es tl k))
      ⟨[], [], _, _, _, _, _, rfl, s0, (by rw [upd_ne hdl, upd_same]), upd_same, Nat.le_refl _, rfl, (fun t ht => by cases ht), CleanTo.zero _ _, fun p t => ⟨(fun z => by cases z), fun z => absurd z Used.zero⟩⟩ (fun k σ H' hk ⟨kvs, tl, v6, v7, v8, v9, v10, e, sH, hD, hL, hkv, htl, hb, hC, hK⟩ => ?_) (fun σ H' ⟨kvs, tl, v6, v7, v8, v9, v10, e, sH, hD, hL, hkv, htl, hb, hC, hK⟩ => ?_)⟩
    · subst e
      have hke : k < es.length := by omega
      obtain ⟨tk, htk, hta⟩ := N.at' hke
      -- number, mine
      refine ⟨_, rfl, _, rfl, _, rfl, _, _, rfl, rfl, a, ns, _, rfl, sH.seq hS, hl, by omega, by omega, ?_⟩
      refine ⟨_, rfl, _, _, rfl, rfl, (by show (0 : Int) < 6; decide), _, _, rfl, rfl, _, rfl, ?_⟩
      refine ite2 (fun _ => ?_) (fun _ => ?_)
      · refine ⟨_, rfl, _, rfl, by omega, by omega, for_range (lo := 0) (n := ((m : Nat) : Int).toNat) (fun st σ G => ∃ (mine : Option Nat) (w9 w10 : Option V), σ = [some (.ref a), some (.int 100), some (.ref p), some (.int (m : Int)), some (.ref d), some (.ref l), some (.int (0 + (k : Int))), some (.int (draw ns (100 + (0 + (k : Int))))), some (tN mine), w9, w10] ∧ Same H G ∧ G d = some (.dT kvs) ∧ G l = some (.lst (tv tl)) ∧ ∀ t, mine = some t → t < m ∧ ¬ Used es tl k (es.getD k (0, 0)).1 t ∧ ¬ Used es tl k (es.getD k (0, 0)).2 t)
          ⟨none, _, _, rfl, sH, hD, hL, fun t z => by cases z⟩ (fun st σ G hst ⟨mine, w9, w10, e, sG, gD, gL, gm⟩ => ?_) (fun σ G ⟨mine, w9, w10, e, sG, gD, gL, gm⟩ => ?_)⟩
        · subst e
          obtain ⟨t, ht, htm⟩ : ∃ t : Nat, (draw ns (100 + (0 + (k : Int))) / 6 + (0 + (st : Int))) % (m : Int) = (t : Int) ∧ t < m := by
            have z1 := mod_lo (n := draw ns (100 + (0 + (k : Int))) / 6 + (0 + (st : Int))) (p := (m : Int)) (by omega)
            have z2 := mod_hi (n := draw ns (100 + (0 + (k : Int))) / 6 + (0 + (st : Int))) (p := (m : Int)) (by omega)
            exact ⟨((draw ns (100 + (0 + (k : Int))) / 6 + (0 + (st : Int))) % (m : Int)).toNat, by omega, by omega⟩
          refine ⟨_, rfl, _, _, rfl, rfl, ⟨by decide, by decide⟩, _, rfl, _, _, rfl, rfl, _, rfl, _, _, rfl, rfl, (by show (0 : Int) < (m : Int); omega), ?_⟩
          dsimp only [gName]
          rw [ht]
          refine ⟨_, rfl, rfl, _, rfl, ?_⟩
          refine ite2 (fun hz => ?_) (fun hz => ?_)
          · refine ⟨_, rfl, p, _, _, _, rfl, rfl, SqT.of (sG _ _ N.e1), rfl, _, rfl, qa, _, _, _, rfl, rfl, SqT.of (sG _ _ N.e2), (by rw [Int.zero_add]; exact atI_nat htk), tk, _, _, _, rfl, rfl, SqT.of (sG _ _ hta), rfl, _, rfl, rfl, fun t1 G1 u1 h1 => ⟨_, rfl, d, _, rfl, DGet.t (k := ky (es.getD k (0, 0)).1 t) (u1 _ _ gD) h1, _, rfl, ?_⟩⟩
            refine ite2 (fun hz1 => ?_) (fun hz1 => ?_)
            · refine ⟨_, rfl, p, _, _, _, rfl, rfl, SqT.of (u1 _ _ (sG _ _ N.e1)), rfl, _, rfl, qa, _, _, _, rfl, rfl, SqT.of (u1 _ _ (sG _ _ N.e2)), (by rw [Int.zero_add]; exact atI_nat htk), tk, _, _, _, rfl, rfl, SqT.of (u1 _ _ (sG _ _ hta)), rfl, _, rfl, rfl, fun t2 G2 u2 h2 => ⟨_, rfl, d, _, rfl, DGet.t (k := ky (es.getD k (0, 0)).2 t) (u2 _ _ (u1 _ _ gD)) h2, _, rfl, ?_⟩⟩
              refine ite2 (fun hz2 => ?_) (fun hz2 => ?_)
              · refine ⟨_, rfl, some t, _, _, rfl, Same.trans (Same.trans sG u1) u2, u2 _ _ (u1 _ _ gD), u2 _ _ (u1 _ _ gL), fun t' e' => ?_⟩
                cases e'
                refine ⟨htm, fun z => ?_, fun z => ?_⟩
                · rw [(hK _ _).mpr z] at hz1; cases hz1
                · rw [(hK _ _).mpr z] at hz2; cases hz2
              · exact ⟨mine, _, _, rfl, Same.trans (Same.trans sG u1) u2, u2 _ _ (u1 _ _ gD), u2 _ _ (u1 _ _ gL), gm⟩
            · exact iteF ⟨mine, _, _, rfl, Same.trans sG u1, u1 _ _ gD, u1 _ _ gL, gm⟩
          · exact iteF ⟨mine, _, _, rfl, sG, gD, gL, gm⟩
        · subst e
          exact rT _ k kvs tl mine G _ _ _ hke htk hta sG gD gL hkv htl hb hC hK gm hd hlH fun G' kvs' tl' h1 h2 h3 h4 h5 h6 h7 h8 => ⟨kvs', tl', _, _, _, _, _, rfl, h1, h2, h3, h4, h5, h6, h7, h8⟩
      · exact rT _ k kvs tl none H' _ _ _ hke htk hta sH hD hL hkv htl hb hC hK (fun t z => by cases z) hd hlH fun G' kvs' tl' h1 h2 h3 h4 h5 h6 h7 h8 => ⟨kvs', tl', _, _, _, _, _, rfl, h1, h2, h3, h4, h5, h6, h7, h8⟩
    · subst e
      have e : ((ts.length : Nat) : Int).toNat = es.length := by omega
      rw [e] at htl hC
      exact ⟨_, rfl, q H' l tl sH hL hlH htl hb hC⟩
end
end My

set_option Elab.async false
set_option linter.all false
set_option maxRecDepth 100000
set_option maxHeartbeats 4000000
namespace L2
open PySem PySem.Spec PyProof.Rows
theorem op_inK {X : Cx} {K : PySem.W.Frag} (hK : X.K = K) : OpR X (compareOp .In) (rIn K false) := by
  subst hK
  exact op_in_seq
theorem pg_tupK {X : Cx} {K : PySem.W.Frag} {es : List Expr} {k : Nat} {t : TGs} {n : Nat} {pos : Pos} (hK : X.K = K) (hc : X.calm = true) (h : PGs X es t) (h1 : (assignEach es X.env).length = n) (h2 : (assignEach es X.env).findIdx? (·.1) = none) : PG X (.Tuple es k pos) (gTup K n t) := by
  subst hK
  exact pg_tup hc h h1 h2
end L2
namespace My
open PySem L2
theorem in_at (p : Nat) (e : Nat × Nat) : inV (.int (p : Int)) [.int (e.1 : Int), .int (e.2 : Int)] = true ↔ At e p := by
  unfold inV At
  simp only [List.any_cons, List.any_nil, Bool.or_false, eqV, Bool.or_eq_true]
  constructor
  · rintro (h | h)
    · left; have := eq_of_beq h; omega
    · right; have := eq_of_beq h; omega
  · rintro (h | h)
    · left; exact beq_iff_eq.mpr (by rw [h])
    · right; exact beq_iff_eq.mpr (by rw [h])
theorem nl_app (l : List Nat) (x : Nat) : nl l ++ [V.int (x : Int)] = nl (l ++ [x]) := by unfold nl; rw [List.map_append]; rfl
section
variable {P : Program} {w : World} {K : PySem.W.Frag} {mg : Str → Option Value} {base : Heap}
/-! ### _law_apart -/
abbrev sAp : Stmt := top 11
abbrev nAp : List Str := ["_law_tints_here", "_law_step", "_law_first", "_law_found", "_law_tint"]
def apart (st fs : Nat) (tl : List (Option Nat)) : List (Option Nat) := tl.map (Option.map fun t => fs + st * t)
def spAp : Sp := fun vs H Q _ => ∃ (l : Addr) (tl : List (Option Nat)) (st fs : Nat), vs = [.ref l, .int (st : Int), .int (fs : Int)] ∧ H l = some (.lst (tv tl)) ∧ tl.length ≤ 200 ∧ st ≤ 1000 ∧ ∀ H' l', Same H H' → H' l' = some (.tup (tv (apart st fs tl))) → Q (.ref l') H'
theorem scAp : FnScope nAp ["_law_tints_here", "_law_step", "_law_first"] (defScope sAp) := ⟨rfl, rfl, rfl, by decide +kernel, rfl, by decide +kernel, by decide +kernel⟩
theorem ok_ap {f : Addr} {fd : FuncData} (F : Fun K "_law_apart" "_law_apart" sAp f fd) (T : Bi mg) : FnOk P w K mg base CX0 1 f fd ["_law_tints_here", "_law_step", "_law_first"] spAp := by
  refine F.ok scAp (fun vs H Q E h => ?_) (fun cdv A outer s H vs Q E hr h => ?_)
  · obtain ⟨l, tl, st, fs, rfl, _⟩ := h
    rfl
  · obtain ⟨l, tl, st, fs, rfl, hL, h200, hst, q⟩ := h
    refine ⟨_, pss_cons (ps_set (i := 3) scAp.nd rfl (Or.inl rfl) (pe_lst pa_nil))
      (pss_cons (ps_for PassesOwn.never rfl (pi_list (pv 0)) (pg_name (i := 4) scAp.nd rfl (Or.inl rfl))
        (pss_one (ps_if (pt_cmpR op_isN (pv 4) pe_non (nomark _)) (pss_one (ps_expr (pe_bm PySem.F.plainAttrs_list PySem.F.slot_list_append PySem.F.type_list_append mt_append (pv 3) (pa_c pe_non pa_nil))))
          (pss_one (ps_expr (pe_bm PySem.F.plainAttrs_list PySem.F.slot_list_append PySem.F.type_list_append mt_append (pv 3) (pa_c (pe_op op_add (pv 2) (pe_op op_mul (pv 1) (pv 4))) pa_nil)))))))
      (pss_one (ps_ret (pe_callTy call_tuple_ofS rfl T.tuple bTuple (pa_c (pv 3) pa_nil))))), ?_⟩
    refine ⟨Nat.zero_le _, fun l' hl' => ?_⟩
    have s0 : Same H (upd H l' (.lst [])) := same_new hl'
    refine ⟨_, rfl, l, rfl, ⟨_, SqL.of (s0 _ _ hL)⟩, for_list (K := K) (a := l) (xs := tv tl) (fun i σ H' => (∃ v4, σ = [some (.ref l), some (.int (st : Int)), some (.int (fs : Int)), some (.ref l'), v4]) ∧ Same H H' ∧ H' l' = some (.lst (tv (apart st fs (tl.take i))))) ⟨⟨_, rfl⟩, s0, upd_same⟩ (fun i σ H' _ z => SqL.of (z.2.1 _ _ hL)) (fun i x σ H' hx ⟨⟨v4, e⟩, sH, hl2⟩ => ?_) (fun σ H' ⟨⟨v4, e⟩, sH, hl2⟩ => ?_)⟩
    · subst e
      obtain ⟨o, ho, rfl⟩ := tv_inv hx
      have hi : i < tl.length := (List.getElem?_eq_some_iff.mp ho).1
      have hsz : (tv (apart st fs (tl.take i))).length < sizeLine := by rw [tv_len, sizeLine_eq]; unfold apart; rw [List.length_map, List.length_take]; omega
      have hap : ∀ o', tl[i]? = some o' → tv (apart st fs (tl.take i)) ++ [tN (o'.map fun t => fs + st * t)] = tv (apart st fs (tl.take (i + 1))) := fun o' h => by
        rw [List.take_add_one, h]
        unfold apart tv
        rw [List.map_append, List.map_append]
        rfl
      refine ⟨_, rfl, rfl, _, rfl, ?_⟩
      cases o with
      | none =>
        refine iteT ⟨_, rfl, .inl ⟨rfl, _, SqL.of hl2⟩, l', _, _, rfl, rfl, hl2, hsz, ⟨_, rfl⟩, sH.wr hl', ?_⟩
        rw [upd_same, ← hap none ho]
        rfl
      | some t =>
        refine iteF ⟨_, rfl, .inl ⟨rfl, _, SqL.of hl2⟩, _, rfl, _, rfl, _, rfl, _, _, rfl, rfl, .inl ⟨by omega, by omega⟩, _, _, rfl, rfl, l', _, _, rfl, rfl, hl2, hsz, ⟨_, rfl⟩, sH.wr hl', ?_⟩
        rw [upd_same, ← hap (some t) ho]
        show some (HO.lst (_ ++ [V.int ((fs : Int) + (st : Int) * (t : Int))])) = some (HO.lst (_ ++ [V.int (((fs + st * t : Nat)) : Int)]))
        rw [Int.natCast_add, Int.natCast_mul]
    · subst e
      rw [tv_len, List.take_length] at hl2
      exact ⟨_, rfl, l', _, rfl, .inl hl2, fun r H2 s2 hr2 => q H2 r (Same.trans sH s2) hr2⟩
/-! ### _law_whole, _law_numbers -/
abbrev sWh : Stmt := top 12
def spWh : Sp := fun vs H Q _ => ∃ i : Int, vs = [.int i] ∧ Q (.bl true) H
theorem scWh : FnScope ["_law_found"] ["_law_found"] (defScope sWh) := ⟨rfl, rfl, rfl, by decide +kernel, rfl, by decide +kernel, by decide +kernel⟩
theorem ok_wh {f : Addr} {fd : FuncData} (F : Fun K "_law_whole" "_law_whole" sWh f fd) (T : Bi mg) : FnOk P w K mg base CX0 1 f fd ["_law_found"] spWh := by
  refine F.ok scWh (fun vs H Q E h => ?_) (fun cdv A outer s H vs Q E hr h => ?_)
  · obtain ⟨i, rfl, _⟩ := h
    rfl
  · obtain ⟨i, rfl, q⟩ := h
    refine ⟨_, pss_one (ps_ret (pe_and (pe_callB call_isinst rfl T.isi bIsi (pa_c (pv 0) (pa_c (pe_bltn (v := .ty "int") rfl T.int bInt rfl) pa_nil)))
      (pe_one (pe_not (pe_callB call_isinst rfl T.isi bIsi (pa_c (pv 0) (pa_c (pe_bltn (v := .ty "bool") rfl T.bool bBool rfl) pa_nil))))))), ?_⟩
    exact ⟨_, rfl, _, _, _, _, rfl, .int i, kit K "int" "int" true (by decide +kernel), _, rfl, iteT ⟨_, rfl, _, _, _, _, rfl, .int i, kit K "int" "bool" false (by decide +kernel), _, rfl, q⟩⟩
abbrev sNu : Stmt := top 13
abbrev nNu : List Str := ["_law_found", "_law_due", "_law_k"]
def spNu : Sp := fun vs H Q _ => ∃ (f d : Addr) (xs : List Nat), vs = [.ref f, .ref d] ∧ H f = some (.tup (nl xs)) ∧ H d = some (.lst (nl xs)) ∧ xs.length ≤ 1000 ∧ Q (.bl true) H
theorem scNu : FnScope nNu ["_law_found", "_law_due"] (defScope sNu) := ⟨rfl, rfl, rfl, by decide +kernel, rfl, by decide +kernel, by decide +kernel⟩
theorem ok_nu {f : Addr} {fd : FuncData} (F : Fun K "_law_numbers" "_law_numbers" sNu f fd) (T : Bi mg) (FW : FnE P w K mg base "_law_whole" ["_law_found"] 1 spWh) : FnOk P w K mg base CX0 2 f fd ["_law_found", "_law_due"] spNu := by
  refine F.ok scNu (fun vs H Q E h => ?_) (fun cdv A outer s H vs Q E hr h => ?_)
  · obtain ⟨f, d, xs, rfl, _⟩ := h
    rfl
  · obtain ⟨fo, d, xs, rfl, hF, hD, h1000, q⟩ := h
    refine ⟨_, pss_cons (ps_if (PW.pt (pw_or (pt_not (pt_val (pe_callB call_isinst rfl T.isi bIsi (pa_c (pv 0) (pa_c (pe_bltn (v := .ty "tuple") rfl T.tuple bTuple rfl) pa_nil)))))
        (pw_or1 (pt_cmpR op_ne (pe_callB call_len_seq rfl T.len bLen (pa_c (pv 0) pa_nil)) (pe_callB call_len_seq rfl T.len bLen (pa_c (pv 1) pa_nil)) (nomark _))))) (pss_one (ps_ret pe_bl)) pss_nil)
      (pss_cons (ps_for PassesOwn.never rfl (pi_range1 rfl T.range (pa_c (pe_callB call_len_seq rfl T.len bLen (pa_c (pv 1) pa_nil)) pa_nil)) (pg_name (i := 2) scNu.nd rfl (Or.inl rfl))
        (pss_one (ps_if (PW.pt (pw_or (pt_not (pt_val (pe_fc FW hr (pa_c (pe_ix ix_tup (pv 0) (pv 2) (fun _ _ => rfl)) pa_nil)))) (pw_or1 (pt_cmpR op_ne (pe_ix ix_tup (pv 0) (pv 2) (fun _ _ => rfl)) (pe_ix ix_list (pv 1) (pv 2) (fun _ _ => rfl)) (nomark _))))) (pss_one (ps_ret pe_bl)) pss_nil)))
      (pss_one (ps_ret pe_bl))), ?_⟩
    have hnl := nl_len xs
    refine ⟨_, rfl, _, _, _, _, rfl, .tup hF, kit K "tuple" "tuple" true (by decide +kernel), _, rfl, iteF ?_⟩
    refine ⟨_, rfl, fo, _, rfl, .inr (SqT.of hF), _, rfl, d, _, rfl, .inl (SqL.of hD), rfl, _, rfl, ?_⟩
    rw [show (!decide (V.int (((nl xs).length : Nat) : Int) = V.int (((nl xs).length : Nat) : Int))) = false by simp]
    refine iteF ⟨_, rfl, d, _, rfl, .inl (SqL.of hD), _, rfl, by omega, by omega, for_range (lo := 0) (n := (((nl xs).length : Nat) : Int).toNat) (fun i σ H' => (∃ v2, σ = [some (.ref fo), some (.ref d), v2]) ∧ H' = H) ⟨⟨_, rfl⟩, rfl⟩ (fun i σ H' hi ⟨⟨v2, e⟩, eH⟩ => ?_) (fun σ H' ⟨_, eH⟩ => by subst eH; exact q)⟩
    subst e eH
    have hix : i < xs.length := by omega
    have hg := nl_get (List.getElem?_eq_getElem hix)
    refine ⟨_, rfl, _, rfl, fo, _, _, _, rfl, rfl, SqT.of hF, (by rw [Int.zero_add]; exact atI_nat hg), _, rfl, _, rfl, iteF ?_⟩
    refine ⟨_, rfl, _, rfl, fo, _, _, _, rfl, rfl, SqT.of hF, (by rw [Int.zero_add]; exact atI_nat hg), _, rfl, _, rfl, d, _, _, _, rfl, rfl, SqL.of hD, (by rw [Int.zero_add]; exact atI_nat hg), rfl, _, rfl, ?_⟩
    rw [show (!decide (V.int ((xs[i] : Nat) : Int) = V.int ((xs[i] : Nat) : Int))) = false by simp]
    exact iteF ⟨⟨_, rfl⟩, rfl⟩
end
end My

set_option Elab.async false
set_option linter.all false
set_option maxRecDepth 100000
set_option maxHeartbeats 4000000
namespace L2
open PySem PySem.Spec PyProof.Rows
/-- for i, x in enumerate(t), by an invariant -/
theorem for_enum {K : PySem.W.Frag} {a : Addr} {xs : List V} {g : TG} {tb : TS} {D : Ends} {σ : St} {H : Hp} (Pv : Nat → St → Hp → Prop) (h0 : Pv 0 σ H) (hl : ∀ i σ H, i ≤ xs.length → Pv i σ H → SqT K H a xs)
    (hs : ∀ i x σ H, xs[i]? = some x → Pv i σ H → ∀ T H1, Same H H1 → H1 T = some (.tup [.int i, x]) → g (.ref T) σ H1 fun σ2 H2 => tb { D with nx := Pv (i + 1), ct := Pv (i + 1), bk := D.nx } σ2 H2) (hd : ∀ σ H, Pv xs.length σ H → D.nx σ H) :
    ∃ W : Nat → Nat → St → Hp → Prop, (∃ m, W 0 m σ H) ∧ ∀ i m σ H, W i m σ H →
      ((Ite K a).stop i H ∧ D.nx σ H) ∨ ((Ite K a).go i H ∧ ∃ N : St → Hp → Prop, (∀ σ' H', N σ' H' → ∃ m', m' < m ∧ W (i + 1) m' σ' H') ∧ ∀ x H', (Ite K a).yld i H x H' → g x σ H' fun σ2 H2 => tb { D with nx := N, ct := N, bk := D.nx } σ2 H2) := by
  refine ⟨fun i m σ H => m = xs.length - i ∧ i ≤ xs.length ∧ Pv i σ H, ⟨xs.length, by simp, Nat.zero_le _, h0⟩, ?_⟩
  rintro i m σ H ⟨rfl, hi, p⟩
  have q1 := hl i σ H hi p
  by_cases hlt : i < xs.length
  · refine .inr ⟨⟨xs, xs[i], q1, by simp [hlt]⟩, Pv (i + 1), fun σ' H' p' => ⟨xs.length - (i + 1), by omega, rfl, hlt, p'⟩, fun x H' y => ?_⟩
    obtain ⟨T, u, rfl, hT, rfl, hu⟩ := y
    exact hs i u σ H (hu xs q1) p T _ (same_add hT) upd_same
  · have e : i = xs.length := by omega
    subst e
    exact .inl ⟨⟨xs, q1, Nat.le_refl _⟩, hd σ H p⟩
end L2
namespace My
open PySem L2
theorem bEnum : bootBuiltins "enumerate" = some (.type "enumerate") := by decide +kernel
theorem bSorted : bootBuiltins "sorted" = some (.builtin "sorted") := by decide +kernel
/-- the other end -/
def oth (e : Nat × Nat) (x : Nat) : Nat := if e.1 = x then e.2 else e.1
theorem oth_at (e : Nat × Nat) (x : Nat) : At e (oth e x) := by unfold oth At; split <;> simp
theorem at_oth {e : Nat × Nat} {x y : Nat} (hx : At e x) (hy : At e y) : y = x ∨ y = oth e x := by
  unfold At at hx hy
  unfold oth
  split <;> omega
abbrev kN (x : Nat) : Key := Sum.inl (x : Int)
theorem kN_inj {x y : Nat} (h : kN x = kN y) : x = y := by have := Sum.inl.inj h; omega
section
variable {P : Program} {w : World} {K : PySem.W.Frag} {mg : Str → Option Value} {base : Heap}
/-! ### across -/
abbrev sAc : Stmt := top 1
def spAc : Sp := fun vs H Q _ => ∃ (p : Addr) (n : Nat) (q : Addr) (ts : List V) (es : List (Nat × Nat)) (k x : Nat), vs = [.ref p, .int (k : Int), .int (x : Int)] ∧ NetZ H p n q ts es ∧ k < es.length ∧ Q (.int (oth (es.getD k (0, 0)) x : Int)) H
theorem scAc : FnScope ["net", "tie", "point", "ends"] ["net", "tie", "point"] (defScope sAc) := ⟨rfl, rfl, rfl, by decide +kernel, rfl, by decide +kernel, by decide +kernel⟩
theorem ok_ac {f : Addr} {fd : FuncData} (F : Fun K "across" "across" sAc f fd) : FnOk P w K mg base CX0 1 f fd ["net", "tie", "point"] spAc := by
  refine F.ok scAc (fun vs H Q E h => ?_) (fun cdv A outer s H vs Q E hr h => ?_)
  · obtain ⟨p, n, q, ts, es, k, x, rfl, _⟩ := h
    rfl
  · obtain ⟨p, n, qa, ts, es, k, x, rfl, N, hk, q⟩ := h
    refine ⟨_, pss_cons (ps_set (i := 3) scAc.nd rfl (Or.inl rfl) (pe_ix ix_tup (pe_ix ix_tup (pv 0) pe_int (fun _ _ => rfl)) (pv 1) (fun _ _ => rfl)))
      (pss_one (ps_ret (pe_ifExp (pt_cmpR op_eq (pe_ix ix_tup (pv 3) pe_int (fun _ _ => rfl)) (pv 2) (nomark _)) (pe_ix ix_tup (pv 3) pe_int (fun _ _ => rfl)) (pe_ix ix_tup (pv 3) pe_int (fun _ _ => rfl))))), ?_⟩
    obtain ⟨a, ha, hta⟩ := N.at' hk
    refine ⟨_, rfl, p, _, _, _, rfl, rfl, SqT.of N.e1, rfl, _, rfl, qa, _, _, _, rfl, rfl, SqT.of N.e2, atI_nat ha, ?_⟩
    refine ⟨_, rfl, a, _, _, _, rfl, rfl, SqT.of hta, rfl, _, rfl, rfl, _, rfl, ?_⟩
    unfold oth at q
    refine ite2 (fun hz => ?_) (fun hz => ?_)
    · have e : (es.getD k (0, 0)).1 = x := by have := V.int.inj (of_decide_eq_true hz); omega
      rw [if_pos e] at q
      exact ⟨_, rfl, a, _, _, _, rfl, rfl, SqT.of hta, rfl, q⟩
    · have e : ¬ (es.getD k (0, 0)).1 = x := fun z => hz (decide_eq_true (by rw [z]))
      rw [if_neg e] at q
      exact ⟨_, rfl, a, _, _, _, rfl, rfl, SqT.of hta, rfl, q⟩
end
/-- a dict of the rows of ties at each point -/
structure Rows (H0 H : Hp) (d : Addr) (kvs : List (Key × V)) (R : Nat → Nat → Prop) (b : Nat) : Prop where
  dd : H d = some (.dK kvs)
  dn : H0 d = none
  s : Same H0 H
  len : kvs.length ≤ b
  row : ∀ x v, valV kvs (kN x) = some v → ∃ l ks, v = .ref l ∧ H0 l = none ∧ H l = some (.lst (nl ks)) ∧ (∀ k, k ∈ ks ↔ R k x) ∧ ks.length ≤ b
  no : ∀ x, valV kvs (kN x) = none → ∀ k, ¬ R k x
  inj : ∀ x y l, valV kvs (kN x) = some (.ref l) → valV kvs (kN y) = some (.ref l) → x = y
theorem Rows.iff {H0 H : Hp} {d : Addr} {kvs : List (Key × V)} {R S : Nat → Nat → Prop} {b : Nat} (h : Rows H0 H d kvs R b) (e : ∀ k x, R k x ↔ S k x) : Rows H0 H d kvs S b :=
  { h with row := fun x v hv => let ⟨l, ks, a1, a2, a3, a4, a5⟩ := h.row x v hv; ⟨l, ks, a1, a2, a3, fun k => (a4 k).trans (e k x), a5⟩, no := fun x hx k => fun z => h.no x hx k ((e k x).mpr z) }
theorem Rows.same {H0 H H' : Hp} {d : Addr} {kvs : List (Key × V)} {R : Nat → Nat → Prop} {b : Nat} (h : Rows H0 H d kvs R b) (s : Same H H') : Rows H0 H' d kvs R b :=
  { h with dd := s _ _ h.dd, s := Same.trans h.s s, row := fun x v hv => let ⟨l, ks, a1, a2, a3, a4, a5⟩ := h.row x v hv; ⟨l, ks, a1, a2, s _ _ a3, a4, a5⟩ }
theorem Rows.mono {H0 H : Hp} {d : Addr} {kvs : List (Key × V)} {R : Nat → Nat → Prop} {b c : Nat} (h : Rows H0 H d kvs R b) (hb : b ≤ c) : Rows H0 H d kvs R c :=
  { h with len := Nat.le_trans h.len hb, row := fun x v hv => let ⟨l, ks, a1, a2, a3, a4, a5⟩ := h.row x v hv; ⟨l, ks, a1, a2, a3, a4, Nat.le_trans a5 hb⟩ }
/-- one more in a row that is there -/
theorem Rows.add {H0 H : Hp} {d l : Addr} {kvs : List (Key × V)} {R : Nat → Nat → Prop} {b x t : Nat} {ks : List Nat} (h : Rows H0 H d kvs R b) (hv : valV kvs (kN x) = some (.ref l)) (hl : H l = some (.lst (nl ks))) (hk : ∀ k, k ∈ ks ↔ R k x) (hb : ks.length ≤ b) (hn : H0 l = none) :
    Rows H0 (upd H l (.lst (nl (ks ++ [t])))) d kvs (fun k y => R k y ∨ (k = t ∧ y = x)) (b + 1) := by
  have hdl : d ≠ l := fun z => by rw [← z, h.dd] at hl; cases hl
  refine ⟨by rw [upd_ne hdl]; exact h.dd, h.dn, h.s.wr hn, by have := h.len; omega, fun y v hy => ?_, fun y hy k z => ?_, h.inj⟩
  · obtain ⟨l2, ks2, rfl, a2, a3, a4, a5⟩ := h.row y v hy
    by_cases e : y = x
    · subst e
      rw [hv] at hy
      cases hy
      refine ⟨l, ks ++ [t], rfl, hn, upd_same, fun k => ?_, by rw [List.length_append, List.length_singleton]; omega⟩
      rw [List.mem_append, List.mem_singleton, hk k]
      exact ⟨fun z => z.imp id fun z => ⟨z, rfl⟩, fun z => z.imp id fun z => z.1⟩
    · have hne : l2 ≠ l := fun z => e (h.inj y x l (by rw [← z]; exact hy) hv)
      refine ⟨l2, ks2, rfl, a2, by rw [upd_ne hne]; exact a3, fun k => ?_, by omega⟩
      rw [a4 k]
      exact ⟨.inl, fun z => z.elim id fun z => absurd z.2 e⟩
  · rcases z with z | ⟨_, z⟩
    · exact h.no y hy k z
    · rw [z, hv] at hy; cases hy
/-- a row more -/
theorem Rows.new {H0 H : Hp} {d l : Addr} {kvs : List (Key × V)} {R : Nat → Nat → Prop} {b x : Nat} (h : Rows H0 H d kvs R b) (hx : valV kvs (kN x) = none) (hl : H l = some (.lst (nl []))) (hn : H0 l = none) (hnew : ∀ y, valV kvs (kN y) ≠ some (.ref l)) : Rows H0 (upd H d (.dK (putK kvs (kN x) (.ref l)))) d (putK kvs (kN x) (.ref l)) R (b + 1) := by
  have hdl : l ≠ d := fun z => by rw [z, h.dd] at hl; cases hl
  have lk := length_putK kvs (kN x) (V.ref l)
  refine ⟨upd_same, h.dn, h.s.wr h.dn, by have := h.len; omega, fun y v hy => ?_, fun y hy k => ?_, fun y z m hy hz => ?_⟩
  · rw [valV_put] at hy
    by_cases e : kN y = kN x
    · rw [if_pos e] at hy
      cases hy
      have := kN_inj e
      subst this
      exact ⟨l, [], rfl, hn, by rw [upd_ne hdl]; exact hl, fun k => ⟨fun z => (by cases z), fun z => absurd z (h.no y hx k)⟩, Nat.zero_le _⟩
    · rw [if_neg e] at hy
      obtain ⟨l2, ks2, a1, a2, a3, a4, a5⟩ := h.row y v hy
      have hne : l2 ≠ d := fun z => by rw [z, h.dd] at a3; cases a3
      exact ⟨l2, ks2, a1, a2, by rw [upd_ne hne]; exact a3, a4, by omega⟩
  · rw [valV_put] at hy
    by_cases e : kN y = kN x
    · rw [if_pos e] at hy; cases hy
    · rw [if_neg e] at hy; exact h.no y hy k
  · rw [valV_put] at hy hz
    by_cases e : kN y = kN x
    · by_cases e2 : kN z = kN x
      · exact (kN_inj e).trans (kN_inj e2).symm
      · rw [if_pos e] at hy
        rw [if_neg e2] at hz
        cases hy
        exact absurd hz (hnew z)
    · by_cases e2 : kN z = kN x
      · rw [if_neg e] at hy
        rw [if_pos e2] at hz
        cases hz
        exact absurd hy (hnew y)
      · rw [if_neg e] at hy
        rw [if_neg e2] at hz
        exact h.inj y z m hy hz
end My

set_option Elab.async false
set_option linter.all false
set_option maxRecDepth 100000
set_option maxHeartbeats 4000000
namespace My
open PySem L2
/-- ties of the two tints before the i-th, by their ends -/
def Rel (es : List (Nat × Nat)) (tl : List (Option Nat)) (u v i k x : Nat) : Prop := k < i ∧ InP tl u v k ∧ At (es.getD k (0, 0)) x
theorem Rel.skip {es : List (Nat × Nat)} {tl : List (Option Nat)} {u v i : Nat} (h : ¬ InP tl u v i) (k x : Nat) : Rel es tl u v i k x ↔ Rel es tl u v (i + 1) k x := by
  constructor
  · rintro ⟨a, b, c⟩; exact ⟨by omega, b, c⟩
  · rintro ⟨a, b, c⟩
    by_cases e : k = i
    · subst e; exact absurd b h
    · exact ⟨by omega, b, c⟩
theorem Rel.take {es : List (Nat × Nat)} {tl : List (Option Nat)} {u v i : Nat} (h : InP tl u v i) (k x : Nat) : ((Rel es tl u v i k x ∨ (k = i ∧ x = (es.getD i (0, 0)).1)) ∨ (k = i ∧ x = (es.getD i (0, 0)).2)) ↔ Rel es tl u v (i + 1) k x := by
  constructor
  · rintro ((⟨a, b, c⟩ | ⟨rfl, rfl⟩) | ⟨rfl, rfl⟩)
    · exact ⟨by omega, b, c⟩
    · exact ⟨by omega, h, .inl rfl⟩
    · exact ⟨by omega, h, .inr rfl⟩
  · rintro ⟨a, b, c⟩
    by_cases e : k = i
    · subst e
      rcases c with rfl | rfl
      · exact .inl (.inr ⟨rfl, rfl⟩)
      · exact .inr ⟨rfl, rfl⟩
    · exact .inl (.inl ⟨by omega, b, c⟩)
/-- while the ends of the i-th are gone through -/
def RJ (es : List (Nat × Nat)) (tl : List (Option Nat)) (u v i : Nat) : Nat → Nat → Nat → Prop
  | 0 => Rel es tl u v i
  | 1 => fun k x => Rel es tl u v i k x ∨ (k = i ∧ x = (es.getD i (0, 0)).1)
  | _ => fun k x => (Rel es tl u v i k x ∨ (k = i ∧ x = (es.getD i (0, 0)).1)) ∨ (k = i ∧ x = (es.getD i (0, 0)).2)
section
variable {P : Program} {w : World} {K : PySem.W.Frag} {mg : Str → Option Value} {base : Heap}
/-! ### two_tinted -/
abbrev sTt : Stmt := top 3
abbrev nTt : List Str := ["net", "tints", "one", "other", "found", "tie", "tint", "point"]
def spTt : Sp := fun vs H Q _ => ∃ (p r : Addr) (n : Nat) (q : Addr) (ts : List V) (es : List (Nat × Nat)) (tl : List (Option Nat)) (u v : Nat), vs = [.ref p, .ref r, .int (u : Int), .int (v : Int)] ∧ NetZ H p n q ts es ∧ H r = some (.tup (tv tl)) ∧ tl.length = es.length ∧
  ∀ H' d kvs, Rows H H' d kvs (Rel es tl u v es.length) 1000 → Q (.ref d) H'
theorem scTt : FnScope nTt ["net", "tints", "one", "other"] (defScope sTt) := ⟨rfl, rfl, rfl, by decide +kernel, rfl, by decide +kernel, by decide +kernel⟩
theorem ok_tt {f : Addr} {fd : FuncData} (F : Fun K "two_tinted" "two_tinted" sTt f fd) (T : Bi mg) (hen : mg "enumerate" = none) : FnOk P w K mg base CX0 1 f fd ["net", "tints", "one", "other"] spTt := by
  refine F.ok scTt (fun vs H Q E h => ?_) (fun cdv A outer s H vs Q E hr h => ?_)
  · obtain ⟨p, r, n, q, ts, es, tl, u, v, rfl, _⟩ := h
    rfl
  · obtain ⟨p, r, n, qa, ts, es, tl, u, v, rfl, N, hR, htl, q⟩ := h
    refine ⟨_, pss_cons (ps_set (i := 4) scTt.nd rfl (Or.inl rfl) pe_dnewK)
      (pss_cons (ps_for PassesOwn.never rfl (pi_enum rfl hen (pa_c (pv 1) pa_nil) rfl) (pg_tup rfl (pgs_cons (pg_name (i := 5) scTt.nd rfl (Or.inl rfl)) (pgs_cons (pg_name (i := 6) scTt.nd rfl (Or.inl rfl)) pgs_nil)))
        (pss_one (ps_if (PW.pt (pw_or (pt_cmpR op_eq (pv 6) (pv 2) (nomark _)) (pw_or1 (pt_cmpR op_eq (pv 6) (pv 3) (nomark _)))))
          (pss_one (ps_for PassesOwn.never rfl (pi_tup (pe_ix ix_tup (pe_ix ix_tup (pv 0) pe_int (fun _ _ => rfl)) (pv 5) (fun _ _ => rfl))) (pg_name (i := 7) scTt.nd rfl (Or.inl rfl))
            (pss_one (ps_expr (pe_bm PySem.F.plainAttrs_list PySem.F.slot_list_append PySem.F.type_list_append mt_append (pe_dsetd (pv 4) (pv 7) (pe_lst pa_nil) ⟨rfl, rfl, rfl, rfl⟩) (pa_c (pv 5) pa_nil)))))) pss_nil)))
      (pss_one (ps_ret (pv 4)))), ?_⟩
    have h200 := N.l200
    have hlen := N.len
    intro d hd
    have R0 : Rows H (upd H d (.dK [])) d [] (Rel es tl u v 0) 0 := ⟨upd_same, hd, same_new hd, Nat.le_refl _, (fun x v z => by cases z), fun x _ k z => absurd z.1 (Nat.not_lt_zero _), fun x y l z => by cases z⟩
    -- one append
    have step : ∀ (G : Hp) (kvs : List (Key × V)) (R : Nat → Nat → Prop) (b i x : Nat) (w6 : Option V) (Qp : VK), b ≤ 900 → Rows H G d kvs R b →
        (∀ v G' kvs', Rows H G' d kvs' (fun k y => R k y ∨ (k = i ∧ y = x)) (b + 2) → Qp v G') →
        tBM K "list" rAppend (tDSetD (tVar 4) (tVar 7) (tLst tNil)) (tCons (tVar 5) tNil) [some (.ref p), some (.ref r), some (.int (u : Int)), some (.int (v : Int)), some (.ref d), some (.int (i : Int)), w6, some (.int (x : Int))] G Qp := by
      intro G kvs R b i x w6 Qp hb RR fin
      refine ⟨_, rfl, d, rfl, .inl ⟨kvs, .inl RR.dd⟩, _, rfl, Nat.zero_le _, fun l hl => ⟨kvs, kN x, same_new hl _ _ RR.dd, rfl, by have := RR.len; omega, fun y hy => ?_, fun hn => ?_⟩⟩
      · have RR1 := RR.same (same_new (o := .lst []) hl)
        obtain ⟨l2, ks, rfl, a2, a3, a4, a5⟩ := RR1.row x y hy
        refine ⟨.inl ⟨rfl, _, SqL.of a3⟩, _, rfl, l2, _, _, rfl, rfl, a3, (by rw [nl_len, sizeLine_eq]; omega), fin _ _ kvs ?_⟩
        rw [nl_app]
        exact (RR1.add hy a3 a4 a5 a2).mono (by omega)
      · have RR1 := RR.same (same_new (o := .lst []) hl)
        have hl0 : H l = none := RR.s.none hl
        have RR2 := RR1.new (l := l) hn upd_same hl0 fun y z => by
          obtain ⟨l2, ks, e1, a2, a3, _⟩ := RR.row y _ z
          cases e1
          rw [a3] at hl
          cases hl
        have hdl : l ≠ d := fun z => by rw [z, RR.dd] at hl; cases hl
        have hL : (upd (upd G l (.lst [])) d (.dK (putK kvs (kN x) (.ref l)))) l = some (.lst (nl [])) := by rw [upd_ne hdl, upd_same]; rfl
        refine ⟨.inl ⟨rfl, _, SqL.of hL⟩, _, rfl, l, _, _, rfl, rfl, hL, (by rw [nl_len, sizeLine_eq]; exact Nat.lt_of_lt_of_le (by decide) (Nat.le_refl _)), fin _ _ (putK kvs (kN x) (.ref l)) ?_⟩
        rw [nl_app]
        exact RR2.add (by rw [valV_put, if_pos rfl]) hL (fun k => ⟨fun z => (by cases z), fun z => absurd z (RR.no x hn k)⟩) (Nat.zero_le _) hl0
    refine ⟨_, rfl, r, rfl, ⟨_, SqT.of (R0.s _ _ hR)⟩, for_enum (K := K) (a := r) (xs := tv tl) (fun i σ H' => ∃ kvs v5 v6 v7, σ = [some (.ref p), some (.ref r), some (.int (u : Int)), some (.int (v : Int)), some (.ref d), v5, v6, v7] ∧ Rows H H' d kvs (Rel es tl u v i) (4 * i)) ⟨[], _, _, _, rfl, R0⟩ (fun i σ H' _ ⟨kvs, _, _, _, _, RR⟩ => SqT.of (RR.s _ _ hR)) (fun i x σ H' hx ⟨kvs, v5, v6, v7, e, RR⟩ TT H1 s1 hTT => ?_) (fun σ H' ⟨kvs, v5, v6, v7, e, RR⟩ => ?_)⟩
    · subst e
      obtain ⟨o, ho, rfl⟩ := tv_inv hx
      have hit : i < tl.length := (List.getElem?_eq_some_iff.mp ho).1
      have hie : i < es.length := by omega
      obtain ⟨a, ha, hta⟩ := N.at' hie
      have RR1 := RR.same s1
      refine ⟨TT, _, rfl, SqT.of hTT, rfl, _, _, rfl, _, _, rfl, rfl, ?_⟩
      have inner : ∀ (t : Nat) (Dn : Ends), InP tl u v i → (∀ G kvs v7, Rows H G d kvs (Rel es tl u v (i + 1)) (4 * (i + 1)) → Dn.nx [some (.ref p), some (.ref r), some (.int (u : Int)), some (.int (v : Int)), some (.ref d), some (.int (i : Int)), some (.int (t : Int)), v7] G) →
          tFor (iTup K (tOp (rIxT K) (tOp (rIxT K) (tVar 0) (tC (.int 1))) (tVar 5))) (gName 7) (fun D σ H => tBM K "list" rAppend (tDSetD (tVar 4) (tVar 7) (tLst tNil)) (tCons (tVar 5) tNil) σ H fun _ H' => D.nx σ H') Dn [some (.ref p), some (.ref r), some (.int (u : Int)), some (.int (v : Int)), some (.ref d), some (.int (i : Int)), some (.int (t : Int)), v7] H1 := by
        intro t Dn hin fin
        refine ⟨_, rfl, p, _, _, _, rfl, rfl, SqT.of (RR1.s _ _ N.e1), rfl, _, rfl, qa, _, _, _, rfl, rfl, SqT.of (RR1.s _ _ N.e2), atI_nat ha, a, rfl, ⟨_, SqT.of (RR1.s _ _ hta)⟩, for_tup (K := K) (a := a) (xs := [.int ((es.getD i (0, 0)).1 : Int), .int ((es.getD i (0, 0)).2 : Int)]) (g := gName 7) (tb := fun D σ H => tBM K "list" rAppend (tDSetD (tVar 4) (tVar 7) (tLst tNil)) (tCons (tVar 5) tNil) σ H fun _ H' => D.nx σ H') (D := Dn)
          (fun j σ G => ∃ kvs' w7, σ = [some (.ref p), some (.ref r), some (.int (u : Int)), some (.int (v : Int)), some (.ref d), some (.int (i : Int)), some (.int (t : Int)), w7] ∧ Rows H G d kvs' (RJ es tl u v i j) (4 * i + 2 * j))
          ⟨kvs, _, rfl, RR1⟩ (fun j σ G _ ⟨_, _, _, RG⟩ => SqT.of (RG.s _ _ hta)) (fun j x σ G hx' ⟨kvs', w7, e, RG⟩ => ?_) (fun σ G ⟨kvs', w7, e, RG⟩ => ?_)⟩
        · subst e
          match j, hx' with
          | 0, hx' =>
            cases hx'
            exact step G kvs' _ (4 * i + 2 * 0) i _ _ _ (by omega) RG fun _ G' kvs2 R2 => ⟨kvs2, _, rfl, R2⟩
          | 1, hx' =>
            cases hx'
            exact step G kvs' _ (4 * i + 2 * 1) i _ _ _ (by omega) RG fun _ G' kvs2 R2 => ⟨kvs2, _, rfl, R2⟩
        · subst e
          exact fin G kvs' _ ((RG.iff fun k x => Rel.take hin k x).mono (by show 4 * i + 2 * 2 ≤ 4 * (i + 1); omega))
      cases o with
      | none =>
        have hnot : ¬ InP tl u v i := fun z => by rcases z with z | z <;> rw [ho] at z <;> cases z
        refine ⟨_, rfl, _, rfl, rfl, _, rfl, iteF ?_⟩
        refine ⟨_, rfl, _, rfl, rfl, _, rfl, iteF ?_⟩
        exact ⟨kvs, _, _, _, rfl, (RR1.iff (Rel.skip hnot)).mono (by omega)⟩
      | some t =>
        refine ⟨_, rfl, _, rfl, rfl, _, rfl, ?_⟩
        refine ite2 (fun hz => ?_) (fun hz => ?_)
        · have e : t = u := by have := V.int.inj (of_decide_eq_true hz); omega
          subst e
          exact iteT (inner t _ (.inl ho) fun G kvs2 w7 R2 => ⟨kvs2, _, _, _, rfl, R2⟩)
        · have ne1 : t ≠ u := fun z => hz (decide_eq_true (by subst z; rfl))
          refine ⟨_, rfl, _, rfl, rfl, _, rfl, ?_⟩
          refine ite2 (fun hz2 => ?_) (fun hz2 => ?_)
          · have e : t = v := by have := V.int.inj (of_decide_eq_true hz2); omega
            subst e
            exact inner t _ (.inr ho) fun G kvs2 w7 R2 => ⟨kvs2, _, _, _, rfl, R2⟩
          · have ne2 : t ≠ v := fun z => hz2 (decide_eq_true (by subst z; rfl))
            have hnot : ¬ InP tl u v i := fun z => by
              rcases z with z | z <;> rw [ho] at z <;> have := Option.some.inj (Option.some.inj z)
              · exact ne1 this
              · exact ne2 this
            exact ⟨kvs, _, _, _, rfl, (RR1.iff (Rel.skip hnot)).mono (by omega)⟩
    · subst e
      rw [tv_len, htl] at RR
      exact ⟨_, rfl, q H' d kvs (RR.mono (by omega))⟩
end
end My

set_option Elab.async false
set_option linter.all false
set_option maxRecDepth 100000
set_option maxHeartbeats 4000000
namespace My
open PySem L2
theorem Walk.init {es : List (Nat × Nat)} {tl : List (Option Nat)} {u v p : Nat} : Walk es tl u v p (· ∈ ([] : List Nat)) (fun _ => False) (· ∈ [p]) :=
  ⟨(fun k h => by cases h), (fun x h => by rw [List.mem_singleton.mp h]; exact .start), (fun x h => h.elim), (fun k h => by cases h), .inr (List.mem_singleton.mpr rfl)⟩
theorem Walk.pop {es : List (Nat × Nat)} {tl : List (Option Nat)} {u v p x : Nat} {F V : Nat → Prop} {w' : List Nat} (h : Walk es tl u v p F V (· ∈ w' ++ [x])) : Walk es tl u v p F V (fun y => y ∈ w' ∨ y = x) := by
  have e : ∀ y, y ∈ w' ++ [x] ↔ (y ∈ w' ∨ y = x) := fun y => by rw [List.mem_append, List.mem_singleton]
  exact ⟨h.rt, fun y hy => h.rw y ((e y).mpr hy), h.cl, fun k hk y hy => (h.en k hk y hy).imp id (e y).mp, h.st.imp id (e p).mp⟩
theorem Walk.add {es : List (Nat × Nat)} {tl : List (Option Nat)} {u v p x k : Nat} {fk wl : List Nat} {V : Nat → Prop} (h : Walk es tl u v p (· ∈ fk) V (fun y => y ∈ wl ∨ y = x)) (hk : k < es.length) (hi : InP tl u v k) (hx : At (es.getD k (0, 0)) x) :
    Walk es tl u v p (· ∈ fk ++ [k]) V (fun y => y ∈ wl ++ [oth (es.getD k (0, 0)) x] ∨ y = x) := by
  have rx := h.rw x (.inr rfl)
  have rt : RT es tl u v p k := ⟨hk, hi, x, rx, hx⟩
  refine ⟨fun j hj => ?_, fun y hy => ?_, fun y hy j h1 h2 h3 => List.mem_append_left _ (h.cl y hy j h1 h2 h3), fun j hj y hy => ?_, h.st.imp id fun z => z.imp (List.mem_append_left _) id⟩
  · rcases List.mem_append.mp hj with z | z
    · exact h.rt j z
    · rw [List.mem_singleton.mp z]; exact rt
  · rcases hy with hy | hy
    · rcases List.mem_append.mp hy with z | z
      · exact h.rw y (.inl z)
      · rw [List.mem_singleton.mp z]; exact rt.end (oth_at _ _)
    · exact h.rw y (.inr hy)
  · rcases List.mem_append.mp hj with z | z
    · exact (h.en j z y hy).imp id fun z => z.imp (List.mem_append_left _) id
    · rw [List.mem_singleton.mp z] at hy
      rcases at_oth hx hy with e | e
      · exact .inr (.inr e)
      · exact .inr (.inl (List.mem_append_right _ (List.mem_singleton.mpr e)))
theorem Walk.close {es : List (Nat × Nat)} {tl : List (Option Nat)} {u v p x : Nat} {F V : Nat → Prop} {wl : List Nat} (h : Walk es tl u v p F V (fun y => y ∈ wl ∨ y = x)) (hx : ∀ k, k < es.length → InP tl u v k → At (es.getD k (0, 0)) x → F k) :
    Walk es tl u v p F (fun y => V y ∨ y = x) (· ∈ wl) := by
  refine ⟨h.rt, fun y hy => h.rw y (.inl hy), fun y hy k h1 h2 h3 => ?_, fun k hk y hy => ?_, ?_⟩
  · rcases hy with hy | rfl
    · exact h.cl y hy k h1 h2 h3
    · exact hx k h1 h2 h3
  · rcases h.en k hk y hy with z | z | z
    · exact .inl (.inl z)
    · exact .inr z
    · exact .inl (.inr z)
  · rcases h.st with z | z | z
    · exact .inl (.inl z)
    · exact .inr z
    · exact .inl (.inr z)
theorem vin {kf : List (Key × V)} {fk : List Nat} (h : kf.map (·.1) = fk.map kN) (k : Nat) : (valV kf (kN k)).isSome = true ↔ k ∈ fk := by
  rw [← valV_any, List.any_eq_true]
  constructor
  · rintro ⟨kv, hkv, e⟩
    have e' : kv.1 = kN k := of_decide_eq_true e
    have : kv.1 ∈ fk.map kN := by rw [← h]; exact List.mem_map_of_mem hkv
    obtain ⟨j, hj, ej⟩ := List.mem_map.mp this
    rw [e'] at ej
    rw [← kN_inj ej]
    exact hj
  · intro hk
    have : kN k ∈ kf.map (·.1) := by rw [h]; exact List.mem_map_of_mem hk
    obtain ⟨kv, hkv, e⟩ := List.mem_map.mp this
    exact ⟨kv, hkv, decide_eq_true e⟩
theorem len_lt {l : List Nat} {n : Nat} (nd : l.Nodup) (h : ∀ x ∈ l, x < n) : l.length ≤ n := by
  have key : ∀ (n : Nat) (l : List Nat), l.Nodup → (∀ x ∈ l, x < n) → l.length ≤ n := by
    intro n
    induction n with
    | zero => intro l _ h; cases l with | nil => exact Nat.le_refl _ | cons x l => exact absurd (h x (.head _)) (Nat.not_lt_zero _)
    | succ n ih =>
      intro l nd h
      have h1 := ih (l.erase n) (nd.erase n) fun x hx => by
        have := (List.Nodup.mem_erase_iff nd).mp hx
        have := h x this.2
        omega
      by_cases hm : n ∈ l
      · rw [List.length_erase_of_mem hm] at h1; omega
      · rw [List.erase_of_not_mem hm] at h1; omega
  exact key n l nd h
/-- the found ties and the waiting points in the heap -/
structure ChSt (Ht G : Hp) (fo wa : Addr) (m : Nat) (fk wl : List Nat) : Prop where
  s : Same Ht G
  w : G wa = some (.lst (nl wl))
  f : ∃ kf : List (Key × V), G fo = some (.dK kf) ∧ kf.map (·.1) = fk.map kN
  nd : fk.Nodup
  lt : ∀ k ∈ fk, k < m
  bd : 2 * (m - fk.length) + wl.length ≤ 2 * m + 1
section
variable {P : Program} {w : World} {K : PySem.W.Frag} {mg : Str → Option Value} {base : Heap}
/-! ### chain -/
abbrev sCh : Stmt := top 4
abbrev nCh : List Str := ["net", "tints", "point", "one", "other", "ties", "found", "waiting", "here", "tie"]
def spCh : Sp := fun vs H Q _ => ∃ (p r : Addr) (n : Nat) (q : Addr) (ts : List V) (es : List (Nat × Nat)) (tl : List (Option Nat)) (pt u v : Nat), vs = [.ref p, .ref r, .int (pt : Int), .int (u : Int), .int (v : Int)] ∧ NetZ H p n q ts es ∧ H r = some (.tup (tv tl)) ∧ tl.length = es.length ∧ es.length < 64 ∧
  ∀ H' t S, Same H H' → H' t = some (.tup (nl S)) → S.Pairwise (· < ·) → (∀ k, k ∈ S ↔ RT es tl u v pt k) → Q (.ref t) H'
theorem scCh : FnScope nCh ["net", "tints", "point", "one", "other"] (defScope sCh) := ⟨rfl, rfl, rfl, by decide +kernel, rfl, by decide +kernel, by decide +kernel⟩
theorem ok_ch {f : Addr} {fd : FuncData} (F : Fun K "chain" "chain" sCh f fd) (T : Bi mg) (hso : mg "sorted" = none) (FT : FnE P w K mg base "two_tinted" ["net", "tints", "one", "other"] 1 spTt) (FA : FnE P w K mg base "across" ["net", "tie", "point"] 1 spAc) : FnOk P w K mg base CX0 2 f fd ["net", "tints", "point", "one", "other"] spCh := by
  refine F.ok scCh (fun vs H Q E h => ?_) (fun cdv A outer s H vs Q E hr h => ?_)
  · obtain ⟨p, r, n, q, ts, es, tl, pt, u, v, rfl, _⟩ := h
    rfl
  · obtain ⟨p, r, n, qa, ts, es, tl, pt, u, v, rfl, N, hR, htl, h64, q⟩ := h
    have hu := hu_of hr
    refine ⟨_, pss_cons (ps_set (i := 5) scCh.nd rfl (Or.inl rfl) (pe_fc FT hr (pa_c (pv 0) (pa_c (pv 1) (pa_c (pv 3) (pa_c (pv 4) pa_nil))))))
      (pss_cons (ps_set (i := 6) scCh.nd rfl (Or.inl rfl) pe_dnewK)
      (pss_cons (ps_set (i := 7) scCh.nd rfl (Or.inl rfl) (pe_lst (pa_c (pv 2) pa_nil)))
      (pss_cons (ps_while PassesOwn.never (pt_truth (pv 7) (fun _ => rfl))
        (pss_cons (ps_set (i := 8) scCh.nd rfl (Or.inl rfl) (pe_bm0 PySem.F.plainAttrs_list PySem.F.slot_list_pop PySem.F.type_list_pop mt_pop (pv 7)))
        (pss_one (ps_for PassesOwn.never rfl (pi_list (pe_dget2 hu (pv 5) (pv 8) (pe_lst pa_nil) ⟨rfl, rfl, rfl, rfl⟩)) (pg_name (i := 9) scCh.nd rfl (Or.inl rfl))
          (pss_one (ps_if (pt_cmp (pc_dnotin hu (pv 9) (pv 6)))
            (pss_cons (ps_dput hu (pv 6) (pv 9) pe_bl rfl)
            (pss_one (ps_expr (pe_bm PySem.F.plainAttrs_list PySem.F.slot_list_append PySem.F.type_list_append mt_append (pv 7) (pa_c (pe_fc FA hr (pa_c (pv 0) (pa_c (pv 9) (pa_c (pv 8) pa_nil)))) pa_nil))))) pss_nil))))))
      (pss_one (ps_ret (pe_callTy call_tuple_ofS rfl T.tuple bTuple (pa_c (pe_callB (call_sortedD hr) rfl hso bSorted (pa_c (pv 6) pa_nil)) pa_nil))))))), ?_⟩
    refine ⟨_, rfl, _, rfl, _, rfl, _, rfl, p, r, n, qa, ts, es, tl, u, v, rfl, N, hR, htl, fun Ht d kvs RW => ?_⟩
    intro fo hfo
    have hwa' : ∀ {wa : Addr}, (upd Ht fo (.dK [])) wa = none → Ht wa = none := fun h => (same_new hfo).none h
    refine ⟨_, rfl, (by show 1 ≤ sizeLine; decide), fun wa hwa => ?_⟩
    have hwt : Ht wa = none := hwa' hwa
    have hfw : fo ≠ wa := fun z => by rw [← z, upd_same] at hwa; cases hwa
    have C0 : ChSt Ht (upd (upd Ht fo (.dK [])) wa (.lst [.int (pt : Int)])) fo wa es.length [] [pt] := ⟨(same_new hfo).wr hwt, by rw [upd_same]; rfl, ⟨[], by rw [upd_ne hfw, upd_same], rfl⟩, List.nodup_nil, (fun k hk => by cases hk), Nat.le_refl _⟩
    refine ⟨fun m σ H' => ∃ fk wl V v8 v9, m = 2 * (es.length - fk.length) + wl.length ∧ σ = [some (.ref p), some (.ref r), some (.int (pt : Int)), some (.int (u : Int)), some (.int (v : Int)), some (.ref d), some (.ref fo), some (.ref wa), v8, v9] ∧ ChSt Ht H' fo wa es.length fk wl ∧ Walk es tl u v pt (· ∈ fk) V (· ∈ wl),
      ⟨_, [], [pt], _, none, none, rfl, rfl, C0, Walk.init⟩, ?_⟩
    rintro m σ H' ⟨fk, wl, VV, v8, v9, rfl, rfl, C, WW⟩
    have hfl : fk.length ≤ es.length := len_lt C.nd C.lt
    refine ⟨_, rfl, _, .inl ⟨_, SqL.of C.w, rfl⟩, ?_⟩
    refine ite2 (fun hz => ?_) (fun hz => ?_)
    · obtain ⟨w', x, rfl⟩ : ∃ w' x, wl = w' ++ [x] := by
        rcases List.eq_nil_or_concat wl with e | ⟨w', x, e⟩
        · subst e; cases hz
        · exact ⟨w', x, by rw [e, List.concat_eq_append]⟩
      have hwl : nl (w' ++ [x]) = nl w' ++ [.int (x : Int)] := (nl_app w' x).symm
      refine ⟨fun σ' H'' => ∃ m', m' < 2 * (es.length - fk.length) + (w' ++ [x]).length ∧ ∃ fk wl V v8 v9, m' = 2 * (es.length - fk.length) + wl.length ∧ σ' = [some (.ref p), some (.ref r), some (.int (pt : Int)), some (.int (u : Int)), some (.int (v : Int)), some (.ref d), some (.ref fo), some (.ref wa), v8, v9] ∧ ChSt Ht H'' fo wa es.length fk wl ∧ Walk es tl u v pt (· ∈ fk) V (· ∈ wl), fun _ _ h => h, ?_⟩
      have hdrop : (nl (w' ++ [x])).dropLast = nl w' := by rw [hwl, List.dropLast_concat]
      refine ⟨_, rfl, .inl ⟨rfl, _, SqL.of C.w⟩, wa, _, .int (x : Int), rfl, rfl, C.w, (by rw [hwl, List.length_append, List.length_singleton, Nat.add_sub_cancel, List.getElem?_append_right (Nat.le_refl _), Nat.sub_self]; rfl), ?_⟩
      rw [hdrop]
      obtain ⟨kf0, hkf0, hkk0⟩ := C.f
      have C1 : ChSt Ht (upd H' wa (.lst (nl w'))) fo wa es.length fk w' := ⟨C.s.wr hwt, upd_same, ⟨kf0, by rw [upd_ne hfw]; exact hkf0, hkk0⟩, C.nd, C.lt, (by have := C.bd; rw [List.length_append] at this; omega)⟩
      have hd1 := C1.s _ _ RW.dd
      refine ⟨_, rfl, d, rfl, .inl ⟨kvs, .inl hd1⟩, _, rfl, Nat.zero_le _, fun l0 hl0 => ⟨_, DGet.k (k := kN x) (same_new hl0 _ _ hd1), ?_⟩⟩
      have s0 : Same (upd H' wa (.lst (nl w'))) (upd (upd H' wa (.lst (nl w'))) l0 (.lst [])) := same_new hl0
      have C2 : ChSt Ht (upd (upd H' wa (.lst (nl w'))) l0 (.lst [])) fo wa es.length fk w' := ⟨Same.trans C1.s s0, s0 _ _ C1.w, (let ⟨kf, a, b⟩ := C1.f; ⟨kf, s0 _ _ a, b⟩), C1.nd, C1.lt, C1.bd⟩
      obtain ⟨la, ks, hval, hla, hks, hlw, hlf⟩ : ∃ la ks, (valV kvs (kN x)).getD (V.ref l0) = .ref la ∧ (upd (upd H' wa (.lst (nl w'))) l0 (.lst [])) la = some (.lst (nl ks)) ∧ (∀ k, k ∈ ks ↔ Rel es tl u v es.length k x) ∧ la ≠ wa ∧ la ≠ fo := by
        cases hv : valV kvs (kN x) with
        | none =>
          refine ⟨l0, [], rfl, upd_same, fun k => ⟨fun z => (by cases z), fun z => absurd z (RW.no x hv k)⟩, fun z => ?_, fun z => ?_⟩
          · rw [z, C1.w] at hl0; cases hl0
          · obtain ⟨kf, a, _⟩ := C1.f
            rw [z, a] at hl0; cases hl0
        | some y =>
          obtain ⟨l2, ks, rfl, _, a3, a4, _⟩ := RW.row x y hv
          exact ⟨l2, ks, rfl, s0 _ _ (C1.s _ _ a3), a4, ne_of_none a3 hwt, ne_of_none a3 hfo⟩
      rw [hval]
      refine ⟨la, rfl, ⟨_, SqL.of hla⟩, for_list (K := K) (a := la) (xs := nl ks) (fun j σ G => ∃ fk' wl' w9, σ = [some (.ref p), some (.ref r), some (.int (pt : Int)), some (.int (u : Int)), some (.int (v : Int)), some (.ref d), some (.ref fo), some (.ref wa), some (.int (x : Int)), w9] ∧ ChSt Ht G fo wa es.length fk' wl' ∧ G la = some (.lst (nl ks)) ∧ Walk es tl u v pt (· ∈ fk') VV (fun y => y ∈ wl' ∨ y = x) ∧ (∀ j' k, j' < j → ks[j']? = some k → k ∈ fk') ∧ 2 * (es.length - fk'.length) + wl'.length ≤ 2 * (es.length - fk.length) + w'.length)
        ⟨fk, w', _, rfl, C2, hla, WW.pop, (fun j' k z => absurd z (Nat.not_lt_zero _)), Nat.le_refl _⟩ (fun j σ G _ ⟨_, _, _, _, _, z, _⟩ => SqL.of z) (fun j y σ G hy ⟨fk', wl', w9, e, CG, gl, WG, hin, hms⟩ => ?_) (fun σ G ⟨fk', wl', w9, e, CG, gl, WG, hin, hms⟩ => ?_)⟩
      · subst e
        obtain ⟨k, hk, rfl⟩ : ∃ k, ks[j]? = some k ∧ y = V.int (k : Int) := by
          unfold nl at hy
          rw [List.getElem?_map] at hy
          cases z : ks[j]? with
          | none => rw [z] at hy; cases hy
          | some k => rw [z] at hy; cases hy; exact ⟨k, rfl, rfl⟩
        obtain ⟨hke, hkp, hkx⟩ := (hks k).mp (List.mem_of_getElem? hk)
        obtain ⟨kf, hkf, hkk⟩ := CG.f
        have hfl' : fk'.length ≤ es.length := len_lt CG.nd CG.lt
        have hkl : kf.length = fk'.length := by have := congrArg List.length hkk; simpa using this
        refine ⟨_, rfl, _, rfl, fo, _, rfl, DGet.k (k := kN k) hkf, _, rfl, ?_⟩
        refine ite2 (fun hz => ?_) (fun hz => ?_)
        · have hno : k ∉ fk' := fun z => by rw [(vin hkk k).mpr z] at hz; cases hz
          have hnone : valV kf (kN k) = none := by
            cases z : valV kf (kN k) with
            | none => rfl
            | some y => rw [z] at hz; cases hz
          have hnd : (fk' ++ [k]).Nodup := by
            rw [List.nodup_append]
            exact ⟨CG.nd, List.nodup_cons.mpr ⟨List.not_mem_nil, List.nodup_nil⟩, fun a ha b hb z => by rw [List.mem_singleton] at hb; subst hb z; exact hno ha⟩
          have hlt : ∀ a ∈ fk' ++ [k], a < es.length := fun a ha => by
            rcases List.mem_append.mp ha with z | z
            · exact CG.lt a z
            · rw [List.mem_singleton.mp z]; exact hke
          have hl3 : (fk' ++ [k]).length ≤ es.length := len_lt hnd hlt
          rw [List.length_append, List.length_singleton] at hl3
          refine ⟨_, rfl, _, rfl, fo, _, rfl, DPut.k (k := kN k) hkf (by rw [sizeLine_eq]; omega), ?_⟩
          have hw3 : (upd G fo (.dK (putK kf (kN k) (V.bl true)))) wa = some (.lst (nl wl')) := by rw [upd_ne (Ne.symm hfw)]; exact CG.w
          have sN : Same H (upd G fo (.dK (putK kf (kN k) (V.bl true)))) := Same.trans RW.s (CG.s.wr hfo)
          refine ⟨_, rfl, .inl ⟨rfl, _, SqL.of hw3⟩, _, rfl, _, rfl, _, rfl, p, n, qa, ts, es, k, x, rfl, N.same sN, hke, wa, _, _, rfl, rfl, hw3, (by have := CG.bd; rw [nl_len, sizeLine_eq]; omega), ?_⟩
          rw [nl_app]
          refine ⟨fk' ++ [k], wl' ++ [oth (es.getD k (0, 0)) x], _, rfl, ⟨(CG.s.wr hfo).wr hwt, upd_same, ⟨putK kf (kN k) (V.bl true), by rw [upd_ne hfw, upd_same], by rw [putK_new _ hnone, List.map_append, hkk, List.map_append]; rfl⟩, hnd, hlt, (by have := CG.bd; rw [List.length_append, List.length_append, List.length_singleton, List.length_singleton]; omega)⟩, by rw [upd_ne hlw, upd_ne hlf]; exact gl, WG.add hke hkp hkx, fun j' k' hj' hk' => ?_, ?_⟩
          · by_cases e : j' = j
            · subst e
              rw [hk] at hk'
              cases hk'
              exact List.mem_append_right _ (List.mem_singleton.mpr rfl)
            · exact List.mem_append_left _ (hin j' k' (by omega) hk')
          · rw [List.length_append, List.length_append, List.length_singleton, List.length_singleton]
            omega
        · have hyes : k ∈ fk' := (vin hkk k).mp (by
            cases z : (valV kf (kN k)).isSome with
            | true => rfl
            | false => rw [z] at hz; exact absurd rfl hz)
          refine ⟨fk', wl', _, rfl, CG, gl, WG, fun j' k' hj' hk' => ?_, hms⟩
          by_cases e : j' = j
          · subst e
            rw [hk] at hk'
            cases hk'
            exact hyes
          · exact hin j' k' (by omega) hk'
      · subst e
        refine ⟨_, ?_, fk', wl', _, _, _, rfl, rfl, CG, WG.close fun k h1 h2 h3 => ?_⟩
        · rw [List.length_append, List.length_singleton]
          omega
        · obtain ⟨j, hj, ej⟩ := List.getElem_of_mem ((hks k).mpr ⟨h1, h2, h3⟩)
          exact hin j k (by rw [nl_len]; exact hj) (by rw [List.getElem?_eq_getElem hj, ej])
    · have hwl : wl = [] := by
        cases wl with
        | nil => rfl
        | cons x l => exact absurd rfl hz
      subst hwl
      obtain ⟨kf, hkf, hkk⟩ := C.f
      have hdone := WW.done (fun x hx => by cases hx)
      have hkn : kf.map (·.1) = (fk.map fun x : Nat => (x : Int)).map Sum.inl := by rw [hkk, List.map_map]; rfl
      refine ⟨_, rfl, fo, kf, fk.map fun x : Nat => (x : Int), rfl, hkf, hkn, by rw [List.length_map]; omega, fun l ns' H2 s2 hl2 hp hs => ?_⟩
      refine ⟨l, _, rfl, .inl hl2, fun t H3 s3 ht => ?_⟩
      have hnn : ∀ x ∈ ns', 0 ≤ x := fun x hx => by
        obtain ⟨y, _, rfl⟩ := List.mem_map.mp (hp.mem_iff.mp hx)
        omega
      have hnl : ns'.map V.int = nl (ns'.map Int.toNat) := by
        unfold nl
        rw [List.map_map]
        refine List.map_congr_left fun x hx => ?_
        show V.int x = V.int ((x.toNat : Nat) : Int)
        rw [Int.toNat_of_nonneg (hnn x hx)]
      have hmem : ∀ k : Nat, k ∈ ns'.map Int.toNat ↔ k ∈ fk := fun k => by
        rw [List.mem_map]
        constructor
        · rintro ⟨x, hx, rfl⟩
          obtain ⟨y, hy, rfl⟩ := List.mem_map.mp (hp.mem_iff.mp hx)
          exact hy
        · intro hk
          exact ⟨(k : Int), hp.mem_iff.mpr (List.mem_map_of_mem (f := fun x : Nat => (x : Int)) hk), rfl⟩
      have hndI : ns'.Nodup := hp.nodup_iff.mpr (by
        rw [List.Nodup, List.pairwise_map]
        exact List.Pairwise.imp (fun {a b} h z => h (by omega)) C.nd)
      have hrise : (ns'.map Int.toNat).Pairwise (· < ·) := by
        rw [List.pairwise_map]
        refine List.Pairwise.imp_of_mem (fun {a b} ha hb h => ?_) (hs.and hndI)
        have := hnn a ha
        have := hnn b hb
        omega
      rw [hnl] at ht
      exact q H3 t _ (Same.trans (Same.trans (Same.trans RW.s C.s) s2) s3) ht hrise fun k => (hmem k).trans (hdone k)
end
end My

set_option Elab.async false
set_option linter.all false
set_option maxRecDepth 100000
set_option maxHeartbeats 4000000
namespace L2
open PySem
theorem mono_sortedD {t : TA} (h : MonoA t) : MonoE (tCB rSortedD t) := fun σ H Q Q' k q => h σ H _ _ (fun vs H1 ⟨d, kvs, ns, a, b, c, e, q⟩ => ⟨d, kvs, ns, a, b, c, e, fun p ns' H' s1 s2 s3 s4 => k _ _ (q p ns' H' s1 s2 s3 s4)⟩) q
theorem putK_keys {κ : Type} [DecidableEq κ] {kvs : List (κ × V)} {k : κ} (v : V) {y : V} (h : valV kvs k = some y) : (putK kvs k v).map (·.1) = kvs.map (·.1) := by
  unfold putK
  have hany : (kvs.any fun kv => decide (kv.1 = k)) = true := by rw [valV_any, h]; rfl
  rw [if_pos hany, List.map_map]
  refine List.map_congr_left fun kv _ => ?_
  show (if _ then _ else _ : κ × V).1 = kv.1
  split
  · first | rfl | (rename_i e; first | exact (of_decide_eq_true e).symm | exact e.symm | simpa using e.symm)
  · rfl
end L2
namespace My
open PySem L2
/-- how often each point came, in a dict -/
structure Times (H : Hp) (d : Addr) (kvs : List (Key × V)) (n : Nat) (f : Nat → Nat) : Prop where
  dd : H d = some (.dK kvs)
  val : ∀ x, valV kvs (kN x) = if f x = 0 then none else some (.int (f x : Int))
  keys : ∃ ks : List Nat, kvs.map (·.1) = ks.map kN ∧ ks.Nodup ∧ ∀ x ∈ ks, x < n
theorem Times.len {H : Hp} {d : Addr} {kvs : List (Key × V)} {n : Nat} {f : Nat → Nat} (h : Times H d kvs n f) : kvs.length ≤ n := by
  obtain ⟨ks, e, nd, lt⟩ := h.keys
  have h1 : kvs.length = ks.length := by have := congrArg List.length e; simpa using this
  rw [h1]
  exact len_lt nd lt
theorem Times.put {H H' : Hp} {d : Addr} {kvs : List (Key × V)} {n x : Nat} {f : Nat → Nat} (h : Times H d kvs n f) (hx : x < n) :
    Times (upd H' d (.dK (putK kvs (kN x) (.int ((f x : Int) + 1))))) d (putK kvs (kN x) (.int ((f x : Int) + 1))) n (fun y => f y + if x = y then 1 else 0) := by
  refine ⟨upd_same, fun y => ?_, ?_⟩
  · rw [valV_put]
    by_cases e : y = x
    · subst e
      rw [if_pos rfl, if_neg (by rw [if_pos rfl]; omega), if_pos rfl]
      rfl
    · rw [if_neg (fun z => e (kN_inj z)), h.val y]
      show _ = if f y + (if x = y then 1 else 0) = 0 then _ else some (V.int ((f y + (if x = y then 1 else 0) : Nat) : Int))
      rw [if_neg (Ne.symm e), Nat.add_zero]
  · obtain ⟨ks, e, nd, lt⟩ := h.keys
    cases hv : valV kvs (kN x) with
    | none =>
      have hno : x ∉ ks := fun z => by have := (vin e x).mpr z; rw [hv] at this; cases this
      refine ⟨ks ++ [x], by rw [putK_new _ hv, List.map_append, e, List.map_append]; rfl, ?_, fun y hy => ?_⟩
      · rw [List.nodup_append]
        exact ⟨nd, List.nodup_cons.mpr ⟨List.not_mem_nil, List.nodup_nil⟩, fun a ha b hb z => by rw [List.mem_singleton] at hb; subst hb z; exact hno ha⟩
      · rcases List.mem_append.mp hy with z | z
        · exact lt y z
        · rw [List.mem_singleton.mp z]; exact hx
    | some y => exact ⟨ks, by rw [putK_keys _ hv, e], nd, lt⟩
theorem Times.wr {H H' : Hp} {d : Addr} {kvs : List (Key × V)} {n : Nat} {f : Nat → Nat} (h : Times H d kvs n f) (hs : Same H H') : Times H' d kvs n f := ⟨hs _ _ h.dd, h.val, h.keys⟩
theorem Times.ext {H : Hp} {d : Addr} {kvs : List (Key × V)} {n : Nat} {f g : Nat → Nat} (h : Times H d kvs n f) (e : ∀ x, f x = g x) : Times H d kvs n g := (funext e : f = g) ▸ h
theorem deg_snoc (es : List (Nat × Nat)) (l : List Nat) (k x : Nat) : deg es (l ++ [k]) x = deg es l x + (if (es.getD k (0, 0)).1 = x then 1 else 0) + (if (es.getD k (0, 0)).2 = x then 1 else 0) := by
  rw [deg_append]
  show _ + (_ + _ + 0) = _
  omega
/-- a row of whole numbers that are Nats -/
theorem ints_nat {ns : List Int} {fk : List Nat} (hp : ns.Perm (fk.map fun x : Nat => (x : Int))) : ns.map V.int = nl (ns.map Int.toNat) ∧ (ns.map Int.toNat).Perm fk := by
  have hnn : ∀ x ∈ ns, 0 ≤ x := fun x hx => by
    obtain ⟨y, _, rfl⟩ := List.mem_map.mp (hp.mem_iff.mp hx)
    omega
  constructor
  · unfold nl
    rw [List.map_map]
    refine List.map_congr_left fun x hx => ?_
    show V.int x = V.int ((x.toNat : Nat) : Int)
    rw [Int.toNat_of_nonneg (hnn x hx)]
  · have := hp.map Int.toNat
    rw [List.map_map] at this
    have e : fk.map (Int.toNat ∘ fun x : Nat => (x : Int)) = fk := by
      conv => rhs; rw [← List.map_id fk]
      exact List.map_congr_left fun x _ => rfl
    rwa [e] at this
theorem ints_rise {ns : List Int} (h : ns.Pairwise (· ≤ ·)) : (ns.map Int.toNat).Pairwise (· ≤ ·) := by
  rw [List.pairwise_map]
  exact h.imp fun z => Int.toNat_le_toNat z
section
variable {P : Program} {w : World} {K : PySem.W.Frag} {mg : Str → Option Value} {base : Heap}
/-! ### chain_ends -/
abbrev sCe : Stmt := top 5
abbrev nCe : List Str := ["net", "tints", "point", "one", "other", "times", "tie", "end"]
abbrev ceScope : Scope := compScope (retE (stOf 5 2))
def spCe : Sp := fun vs H Q _ => ∃ (p r : Addr) (n : Nat) (q : Addr) (ts : List V) (es : List (Nat × Nat)) (tl : List (Option Nat)) (pt u v : Nat), vs = [.ref p, .ref r, .int (pt : Int), .int (u : Int), .int (v : Int)] ∧ NetZ H p n q ts es ∧ H r = some (.tup (tv tl)) ∧ tl.length = es.length ∧ es.length < 64 ∧
  ∀ H' t S E, Same H H' → H' t = some (.tup (nl E)) → S.Pairwise (· < ·) → (∀ k, k ∈ S ↔ RT es tl u v pt k) → E.Pairwise (· < ·) → (∀ x, x ∈ E ↔ deg es S x = 1) → Q (.ref t) H'
theorem ndCe : (["end", "times"] : List Str).Nodup := by decide +kernel
theorem scCe : FnScope nCe ["net", "tints", "point", "one", "other"] (defScope sCe) := ⟨rfl, rfl, rfl, by decide +kernel, rfl, by decide +kernel, by decide +kernel⟩
theorem blkCe {f : Addr} {cdv : Value} {A : Around} {outer : List Env} {s : Shared} {H : Hp} {E : XK} :
    Blk (cxOf CX0 P w K mg base nCe "chain_ends" (defScope sCe) f cdv A outer s H E).nox ceScope [("times", s.heap.objs.size + 1)] ["end", "times"] [none, some 5] := by
  refine ⟨rfl, rfl, by decide +kernel, by decide +kernel, fun p hp => ?_, fun y hy e => ?_, ⟨rfl, rfl, rfl⟩, trivial⟩
  · rw [List.mem_singleton.mp hp]
    rfl
  · have hy' : y ∈ [((PySem.Str.ofString ".0" : Str), NameKind.local), (PySem.Str.ofString "end", .local), (PySem.Str.ofString "times", .free)] := hy
    simp only [List.mem_cons, List.not_mem_nil, or_false] at hy'
    rcases hy' with rfl | rfl | rfl
    · cases e
    · cases e
    · rfl
def DJ (f : Nat → Nat) (e : Nat × Nat) : Nat → Nat → Nat
  | 0 => f
  | 1 => fun y => f y + if e.1 = y then 1 else 0
  | _ => fun y => (f y + if e.1 = y then 1 else 0) + if e.2 = y then 1 else 0
theorem ok_ce {f : Addr} {fd : FuncData} (F : Fun K "chain_ends" "chain_ends" sCe f fd) (T : Bi mg) (hso : mg "sorted" = none) (FC : FnE P w K mg base "chain" ["net", "tints", "point", "one", "other"] 2 spCh) : FnOk P w K mg base CX0 3 f fd ["net", "tints", "point", "one", "other"] spCe := by
  refine F.ok scCe (fun vs H Q E h => ?_) (fun cdv A outer s H vs Q E hr h => ?_)
  · obtain ⟨p, r, n, q, ts, es, tl, pt, u, v, rfl, _⟩ := h
    rfl
  · obtain ⟨p, r, n, qa, ts, es, tl, pt, u, v, rfl, N, hR, htl, h64, q⟩ := h
    have hu := hu_of hr
    refine ⟨_, pss_cons (ps_set (i := 5) scCe.nd rfl (Or.inr rfl) pe_dnewK)
      (pss_cons (ps_for PassesOwn.never rfl (pi_tup (pe_fc FC hr (pa_c (pv 0) (pa_c (pv 1) (pa_c (pv 2) (pa_c (pv 3) (pa_c (pv 4) pa_nil))))))) (pg_name (i := 6) scCe.nd rfl (Or.inl rfl))
        (pss_one (ps_for PassesOwn.never rfl (pi_tup (pe_ix ix_tup (pe_ix ix_tup (pv 0) pe_int (fun _ _ => rfl)) (pv 6) (fun _ _ => rfl))) (pg_name (i := 7) scCe.nd rfl (Or.inl rfl))
          (pss_one (ps_dput hu (pv 5) (pv 7) (pe_op op_add (pe_dget2 hu (pv 5) (pv 7) pe_int ⟨rfl, rfl, rfl, rfl⟩) pe_int) rfl)))))
      (pss_one (ps_ret (pe_callTy call_tuple_ofS rfl T.tuple bTuple (pa_c (pe_lcL blkCe rfl (pe_callB (call_sortedD hr) rfl hso bSorted (pa_c (pv 5) pa_nil)) (mono_sortedD (monoA_cons (mono_var 5) monoA_nil)) (fun C fp s H => pg_name (i := 0) ndCe rfl (Or.inl rfl)) (fun C fp s H => pts_one (pt_cmpR op_eq (pe_dget hu (pv 1) (pv 0) (fun _ _ => rfl)) pe_int (nomark _))) (fun C fp s H => pv 0)) pa_nil))))), ?_⟩
    intro d hd
    have T0 : Times (upd H d (.dK [])) d [] n (deg es []) := ⟨upd_same, fun x => rfl, [], rfl, List.nodup_nil, fun x hx => by cases hx⟩
    have s0 : Same H (upd H d (.dK [])) := same_new hd
    refine ⟨_, rfl, _, rfl, _, rfl, _, rfl, _, rfl, p, r, n, qa, ts, es, tl, pt, u, v, rfl, N.same s0, s0 _ _ hR, htl, h64, fun H1 t S s1 ht hS hRT => ?_⟩
    have hS1 : Same H H1 := Same.trans s0 s1
    have htd : t ≠ d := fun z => by rw [z, s1 _ _ T0.dd] at ht; cases ht
    refine ⟨t, rfl, ⟨_, SqT.of ht⟩, for_tup (K := K) (a := t) (xs := nl S) (fun i σ G => ∃ kvs v6 v7, σ = [some (.ref p), some (.ref r), some (.int (pt : Int)), some (.int (u : Int)), some (.int (v : Int)), some (.ref d), v6, v7] ∧ Same H G ∧ G t = some (.tup (nl S)) ∧ Times G d kvs n (deg es (S.take i)))
      ⟨[], _, _, rfl, hS1, ht, T0.wr s1⟩ (fun i σ G _ ⟨_, _, _, _, _, z, _⟩ => SqT.of z) (fun i y σ G hy ⟨kvs, v6, v7, e, SG, gt, TG⟩ => ?_) (fun σ G ⟨kvs, v6, v7, e, SG, gt, TG⟩ => ?_)⟩
    · subst e
      obtain ⟨k, hk, rfl⟩ : ∃ k, S[i]? = some k ∧ y = V.int (k : Int) := by
        unfold nl at hy
        rw [List.getElem?_map] at hy
        cases z : S[i]? with
        | none => rw [z] at hy; cases hy
        | some k => rw [z] at hy; cases hy; exact ⟨k, rfl, rfl⟩
      have hke : k < es.length := ((hRT k).mp (List.mem_of_getElem? hk)).1
      obtain ⟨a, ha, hta⟩ := N.at' hke
      have hok := N.ok _ (getD_mem hke)
      have h60 := N.n60
      refine ⟨_, rfl, p, _, _, _, rfl, rfl, SqT.of (SG _ _ N.e1), rfl, _, rfl, qa, _, _, _, rfl, rfl, SqT.of (SG _ _ N.e2), atI_nat ha, a, rfl, ⟨_, SqT.of (SG _ _ hta)⟩, for_tup (K := K) (a := a) (xs := [.int ((es.getD k (0, 0)).1 : Int), .int ((es.getD k (0, 0)).2 : Int)])
        (fun j σ G => ∃ kvs w7, σ = [some (.ref p), some (.ref r), some (.int (pt : Int)), some (.int (u : Int)), some (.int (v : Int)), some (.ref d), some (.int (k : Int)), w7] ∧ Same H G ∧ G t = some (.tup (nl S)) ∧ Times G d kvs n (DJ (deg es (S.take i)) (es.getD k (0, 0)) j))
        ⟨kvs, _, rfl, SG, gt, TG⟩ (fun j σ G _ ⟨_, _, _, z, _⟩ => SqT.of (z _ _ hta)) (fun j y σ G hy ⟨kvs, w7, e, SG, gt, TG⟩ => ?_) (fun σ G ⟨kvs, w7, e, SG, gt, TG⟩ => ?_)⟩
      · subst e
        obtain ⟨x, rfl, hxn, hdj⟩ : ∃ x : Nat, y = V.int (x : Int) ∧ x < n ∧ (∀ z, DJ (deg es (S.take i)) (es.getD k (0, 0)) (j + 1) z = DJ (deg es (S.take i)) (es.getD k (0, 0)) j z + if x = z then 1 else 0) := by
          match j, hy with
          | 0, hy => cases hy; exact ⟨_, rfl, hok.1, fun z => rfl⟩
          | 1, hy => cases hy; exact ⟨_, rfl, hok.2.1, fun z => rfl⟩
        have hval : (valV kvs (kN x)).getD (V.int 0) = V.int (DJ (deg es (S.take i)) (es.getD k (0, 0)) j x : Int) := by
          rw [TG.val]
          by_cases z : DJ (deg es (S.take i)) (es.getD k (0, 0)) j x = 0
          · rw [if_pos z, z]; rfl
          · rw [if_neg z]; rfl
        have hkl := TG.len
        refine ⟨_, rfl, d, rfl, .inl ⟨kvs, .inl TG.dd⟩, _, rfl, _, DGet.k (k := kN x) TG.dd, _, _, hval, rfl, _, rfl, _, rfl, d, _, rfl, DPut.k (k := kN x) TG.dd (by rw [sizeLine_eq]; omega), ?_⟩
        exact ⟨_, _, rfl, SG.wr hd, by rw [upd_ne htd]; exact gt, (TG.put hxn).ext fun z => (hdj z).symm⟩
      · subst e
        refine ⟨kvs, _, _, rfl, SG, gt, TG.ext fun x => ?_⟩
        rw [List.take_add_one, hk]
        exact (deg_snoc es (S.take i) k x).symm
    · subst e
      rw [nl_len, List.take_length] at TG
      obtain ⟨ks, hks, nd, lt⟩ := TG.keys
      have hl60 : ks.length ≤ n := len_lt nd lt
      have h60 := N.n60
      have hkn : kvs.map (·.1) = (ks.map fun x : Nat => (x : Int)).map Sum.inl := by rw [hks, List.map_map]; rfl
      refine ⟨_, rfl, d, kvs, ks.map fun x : Nat => (x : Int), rfl, TG.dd, hkn, by rw [List.length_map]; omega, fun l ns' H2 s2 hl2 hp hs => ?_⟩
      obtain ⟨hnl, hperm⟩ := ints_nat hp
      rw [hnl] at hl2
      have hrise : (ns'.map Int.toNat).Pairwise (· < ·) := rising_of (ints_rise hs) (hperm.nodup_iff.mpr nd)
      generalize ns'.map Int.toNat = L at *
      have hll : L.length ≤ 60 := by have := hperm.length_eq; omega
      refine ⟨l, _, rfl, SqL.of hl2, (by rw [nl_len]; omega), fun i ys σ G => Same H2 G ∧ ys = nl ((L.take i).filter fun x => decide (deg es S x = 1)) ∧ ∃ v0, σ = [v0, some (.ref d)], ⟨Same.refl _, rfl, _, rfl⟩, fun i ys σ G hi ⟨e1, e2, _⟩ => ?_, fun i y ys σ G hy ⟨e1, e2, v0, e3⟩ => ?_, fun ys σ G ⟨e1, e2, _⟩ l2 H3 s3 hl3 => ?_⟩
      · subst e2
        exact ⟨SqL.of (e1 _ _ hl2), by rw [nl_len]; exact Nat.le_trans (List.length_filter_le _ _) (List.length_take_le _ _)⟩
      · subst e2 e3
        obtain ⟨x, hx, rfl⟩ : ∃ k, L[i]? = some k ∧ y = V.int (k : Int) := by
          unfold nl at hy
          rw [List.getElem?_map] at hy
          cases z : L[i]? with
          | none => rw [z] at hy; cases hy
          | some k => rw [z] at hy; cases hy; exact ⟨k, rfl, rfl⟩
        have hxk : x ∈ ks := hperm.mem_iff.mp (List.mem_of_getElem? hx)
        have hsome := (vin hks x).mpr hxk
        have hv := TG.val x
        have hg : valV kvs (kN x) = some (V.int (deg es S x : Int)) := by
          by_cases z : deg es S x = 0
          · rw [hv, if_pos z] at hsome; cases hsome
          · rw [hv, if_neg z]
        have hD : DGet G d (kV (kN x)) (some (V.int (deg es S x : Int))) := by
          rw [← hg]
          exact DGet.k (e1 _ _ (s2 _ _ TG.dd))
        refine ⟨_, rfl, _, rfl, d, _, rfl, hD, rfl, _, rfl, ?_⟩
        refine ite2 (fun hz => ?_) (fun hz => ?_)
        · have e : deg es S x = 1 := by have := V.int.inj (of_decide_eq_true hz); omega
          refine ⟨_, rfl, e1, ?_, _, rfl⟩
          rw [List.take_add_one, hx, List.filter_append]
          show nl _ ++ [V.int (x : Int)] = nl (_ ++ [x].filter _)
          rw [nl_app, List.filter_cons, if_pos (decide_eq_true e)]
          rfl
        · have e : deg es S x ≠ 1 := fun z => hz (decide_eq_true (by rw [z]; rfl))
          refine ⟨e1, ?_, _, rfl⟩
          rw [List.take_add_one, hx, List.filter_append]
          show nl _ = nl (_ ++ [x].filter _)
          rw [List.filter_cons, if_neg (fun z => e (of_decide_eq_true z))]
          show nl _ = nl (_ ++ [])
          rw [List.append_nil]
      · subst e2
        rw [nl_len, List.take_length] at hl3
        refine ⟨l2, _, rfl, .inl hl3, fun t2 H4 s4 ht2 => q H4 t2 S _ (Same.trans (Same.trans (Same.trans (Same.trans SG s2) e1) s3) s4) ht2 hS hRT (hrise.filter _) fun x => ?_⟩
        rw [List.mem_filter]
        constructor
        · exact fun z => of_decide_eq_true z.2
        · intro e
          refine ⟨hperm.mem_iff.mpr ((vin hks x).mp ?_), decide_eq_true e⟩
          rw [TG.val, if_neg (by omega)]
          rfl
end
end My

set_option Elab.async false
set_option linter.all false
set_option maxRecDepth 100000
set_option maxHeartbeats 4000000
namespace My
open PySem L2
def addN (l : List Nat) (x : Nat) : List Nat := if x ∈ l then l else l ++ [x]
theorem mem_addN {l : List Nat} {x y : Nat} : y ∈ addN l x ↔ y ∈ l ∨ y = x := by
  unfold addN
  split
  · rename_i h
    exact ⟨.inl, fun z => z.elim id fun e => e ▸ h⟩
  · rw [List.mem_append, List.mem_singleton]
theorem addN_nodup {l : List Nat} {x : Nat} (h : l.Nodup) : (addN l x).Nodup := by
  unfold addN
  split
  · exact h
  · rename_i hn
    rw [List.nodup_append]
    exact ⟨h, List.nodup_cons.mpr ⟨List.not_mem_nil, List.nodup_nil⟩, fun a ha b hb z => by rw [List.mem_singleton] at hb; subst hb z; exact hn ha⟩
theorem addN_get {l : List Nat} {x y i : Nat} (h : l[i]? = some y) : (addN l x)[i]? = some y := by
  unfold addN
  split
  · exact h
  · rw [List.getElem?_append_left (List.getElem?_eq_some_iff.mp h).1]; exact h
theorem addN_len {l : List Nat} {x : Nat} : (addN l x).length ≤ l.length + 1 := by
  unfold addN
  split
  · omega
  · rw [List.length_append]; exact Nat.le_refl _
theorem addN_in {l : List Nat} {x : Nat} (h : x ∈ l) : addN l x = l := by unfold addN; rw [if_pos h]
/-- the state of the going -/
structure Cm (es : List (Nat × Nat)) (tl : List (Option Nat)) (u v p n a : Nat) (met known : List Nat) : Prop where
  kn : known.Nodup
  kr : ∀ x ∈ known, RP es tl u v p x
  kp : p ∈ known
  klt : ∀ x ∈ known, x < n
  mn : met.Nodup
  mr : ∀ k ∈ met, RT es tl u v p k
  me : ∀ k ∈ met, (es.getD k (0, 0)).1 ∈ known ∧ (es.getD k (0, 0)).2 ∈ known
  cl : ∀ i x, i < a → known[i]? = some x → ∀ k, k < es.length → InP tl u v k → At (es.getD k (0, 0)) x → k ∈ met
  le : known.length ≤ met.length + 1
theorem Cm.start {es : List (Nat × Nat)} {tl : List (Option Nat)} {u v p n : Nat} (h : p < n) : Cm es tl u v p n 0 [] [p] :=
  ⟨List.nodup_cons.mpr ⟨List.not_mem_nil, List.nodup_nil⟩, (fun x hx => by rw [List.mem_singleton.mp hx]; exact .start), List.mem_singleton.mpr rfl, (fun x hx => by rw [List.mem_singleton.mp hx]; exact h), List.nodup_nil, (fun k hk => by cases hk), (fun k hk => by cases hk), (fun i x hi => absurd hi (Nat.not_lt_zero _)), Nat.le_refl _⟩
theorem Cm.add {es : List (Nat × Nat)} {tl : List (Option Nat)} {u v p n a x k : Nat} {met known : List Nat} (h : Cm es tl u v p n a met known) (hx : known[a]? = some x) (hk : k < es.length) (hi : InP tl u v k) (hat : At (es.getD k (0, 0)) x) (hno : k ∉ met) (h1 : (es.getD k (0, 0)).1 < n) (h2 : (es.getD k (0, 0)).2 < n) :
    Cm es tl u v p n a (met ++ [k]) (addN (addN known (es.getD k (0, 0)).1) (es.getD k (0, 0)).2) := by
  have hxm := List.mem_of_getElem? hx
  have rt : RT es tl u v p k := ⟨hk, hi, x, h.kr x hxm, hat⟩
  have hal : a < known.length := (List.getElem?_eq_some_iff.mp hx).1
  have key : ∀ y, y ∈ addN (addN known (es.getD k (0, 0)).1) (es.getD k (0, 0)).2 ↔ (y ∈ known ∨ y = (es.getD k (0, 0)).1) ∨ y = (es.getD k (0, 0)).2 := fun y => by rw [mem_addN, mem_addN]
  refine ⟨addN_nodup (addN_nodup h.kn), fun y hy => ?_, (key p).mpr (.inl (.inl h.kp)), fun y hy => ?_, ?_, fun j hj => ?_, fun j hj => ?_, fun i y hi' hy j a1 a2 a3 => ?_, ?_⟩
  · rcases (key y).mp hy with (z | rfl) | rfl
    · exact h.kr y z
    · exact rt.end (.inl rfl)
    · exact rt.end (.inr rfl)
  · rcases (key y).mp hy with (z | rfl) | rfl
    · exact h.klt y z
    · exact h1
    · exact h2
  · rw [List.nodup_append]
    exact ⟨h.mn, List.nodup_cons.mpr ⟨List.not_mem_nil, List.nodup_nil⟩, fun a ha b hb z => by rw [List.mem_singleton] at hb; subst hb z; exact hno ha⟩
  · rcases List.mem_append.mp hj with z | z
    · exact h.mr j z
    · rw [List.mem_singleton.mp z]; exact rt
  · rcases List.mem_append.mp hj with z | z
    · exact ⟨(key _).mpr (.inl (.inl (h.me j z).1)), (key _).mpr (.inl (.inl (h.me j z).2))⟩
    · rw [List.mem_singleton.mp z]; exact ⟨(key _).mpr (.inl (.inr rfl)), (key _).mpr (.inr rfl)⟩
  · have hil : i < known.length := by omega
    have e : known[i]? = some y := by
      have h3 := addN_get (x := (es.getD k (0, 0)).2) (addN_get (x := (es.getD k (0, 0)).1) (List.getElem?_eq_getElem hil))
      rw [hy] at h3
      rw [List.getElem?_eq_getElem hil, ← Option.some.inj h3]
    exact List.mem_append_left _ (h.cl i y hi' e j a1 a2 a3)
  · rw [List.length_append, List.length_singleton]
    have hle := h.le
    rcases hat with e | e
    · rw [addN_in (l := known) (x := (es.getD k (0, 0)).1) (e ▸ hxm)]
      have := addN_len (l := known) (x := (es.getD k (0, 0)).2)
      omega
    · rw [addN_in (l := addN known (es.getD k (0, 0)).1) (x := (es.getD k (0, 0)).2) (mem_addN.mpr (.inl (e ▸ hxm)))]
      have := addN_len (l := known) (x := (es.getD k (0, 0)).1)
      omega
theorem Cm.next {es : List (Nat × Nat)} {tl : List (Option Nat)} {u v p n a x : Nat} {met known : List Nat} (h : Cm es tl u v p n a met known) (hx : known[a]? = some x) (hc : ∀ k, k < es.length → InP tl u v k → At (es.getD k (0, 0)) x → k ∈ met) : Cm es tl u v p n (a + 1) met known :=
  ⟨h.kn, h.kr, h.kp, h.klt, h.mn, h.mr, h.me, (fun i y hi hy => by
    by_cases e : i = a
    · subst e
      rw [hx] at hy
      cases hy
      exact hc
    · exact h.cl i y (by omega) hy), h.le⟩
theorem Cm.done {es : List (Nat × Nat)} {tl : List (Option Nat)} {u v p n a : Nat} {met known : List Nat} (h : Cm es tl u v p n a met known) (ha : known.length ≤ a) : ∀ k, k ∈ met ↔ RT es tl u v p k := by
  have W : Walk es tl u v p (· ∈ met) (· ∈ known) (fun _ => False) := by
    refine ⟨h.mr, fun x z => z.elim, fun x hx k a1 a2 a3 => ?_, fun k hk x hx => .inl ?_, .inl h.kp⟩
    · obtain ⟨i, hi, e⟩ := List.getElem_of_mem hx
      exact h.cl i x (by omega) (by rw [List.getElem?_eq_getElem hi, e]) k a1 a2 a3
    · rcases hx with rfl | rfl
      · exact (h.me k hk).1
      · exact (h.me k hk).2
  exact W.done fun x z => z
theorem in_nl (k : Nat) (l : List Nat) : inV (.int (k : Int)) (nl l) = true ↔ k ∈ l := by
  unfold inV nl
  rw [List.any_map, List.any_eq_true]
  constructor
  · rintro ⟨x, hx, e⟩
    have e' : ((x : Int) == (k : Int)) = true := e
    have := eq_of_beq e'
    rw [show k = x by omega]
    exact hx
  · intro h
    exact ⟨k, h, (beq_iff_eq.mpr rfl : ((k : Int) == (k : Int)) = true)⟩
theorem flat_nl (l : List Nat) : (nl l).all flatV = true := by
  unfold nl
  rw [List.all_map, List.all_eq_true]
  exact fun x _ => rfl
theorem in_pair {tl : List (Option Nat)} {u v k : Nat} {o : Option Nat} (h : tl[k]? = some o) : inV (tN o) (nl [u, v]) = true ↔ InP tl u v k := by
  unfold InP
  rw [h]
  cases o with
  | none =>
    constructor
    · intro z; cases z
    · rintro (z | z) <;> cases z
  | some t =>
    refine (in_nl t [u, v]).trans ?_
    constructor
    · intro z
      rcases List.mem_cons.mp z with rfl | z
      · exact .inl rfl
      · rw [List.mem_singleton.mp z]; exact .inr rfl
    · rintro (z | z)
      · rw [Option.some.inj (Option.some.inj z)]; exact .head _
      · rw [Option.some.inj (Option.some.inj z)]; exact .tail _ (.head _)
theorem flat_tN (o : Option Nat) : flatV (tN o) = true := by cases o <;> rfl
def KJ (l : List Nat) (e : Nat × Nat) : Nat → List Nat
  | 0 => l
  | 1 => addN l e.1
  | _ => addN (addN l e.1) e.2
section
variable {P : Program} {w : World} {K : PySem.W.Frag} {mg : Str → Option Value} {base : Heap}
/-! ### _law_come_to -/
abbrev sCt : Stmt := top 14
abbrev nCt : List Str := ["_law_net_here", "_law_tints_here", "_law_point", "_law_pair", "_law_met", "_law_known", "_law_at", "_law_k", "_law_there"]
def spCt : Sp := fun vs H Q _ => ∃ (p r : Addr) (n : Nat) (q : Addr) (ts : List V) (es : List (Nat × Nat)) (tl : List (Option Nat)) (pt : Nat) (pr : Addr) (u v : Nat), vs = [.ref p, .ref r, .int (pt : Int), .ref pr] ∧ NetZ H p n q ts es ∧ H r = some (.tup (tv tl)) ∧ tl.length = es.length ∧ es.length < 64 ∧ pt < n ∧ H pr = some (.lst (nl [u, v])) ∧
  ∀ H' l (S pts : List Nat), Same H H' → H' l = some (.lst (nl S)) → S.Pairwise (· < ·) → (∀ k, k ∈ S ↔ RT es tl u v pt k) → pts.Nodup → (∀ k ∈ S, (es.getD k (0, 0)).1 ∈ pts ∧ (es.getD k (0, 0)).2 ∈ pts) → pts.length ≤ S.length + 1 → (∀ x ∈ pts, RP es tl u v pt x) → Q (.ref l) H'
theorem scCt : FnScope nCt ["_law_net_here", "_law_tints_here", "_law_point", "_law_pair"] (defScope sCt) := ⟨rfl, rfl, rfl, by decide +kernel, rfl, by decide +kernel, by decide +kernel⟩
theorem ok_ct {f : Addr} {fd : FuncData} (F : Fun K "_law_come_to" "_law_come_to" sCt f fd) (T : Bi mg) (hso : mg "sorted" = none) : FnOk P w K mg base CX0 1 f fd ["_law_net_here", "_law_tints_here", "_law_point", "_law_pair"] spCt := by
  refine F.ok scCt (fun vs H Q E h => ?_) (fun cdv A outer s H vs Q E hr h => ?_)
  · obtain ⟨p, r, n, q, ts, es, tl, pt, pr, u, v, rfl, _⟩ := h
    rfl
  · obtain ⟨p, r, n, qa, ts, es, tl, pt, pr, u, v, rfl, N, hR, htl, h64, hpt, hpr, q⟩ := h
    refine ⟨_, pss_cons (ps_set (i := 4) scCt.nd rfl (Or.inl rfl) (pe_lst pa_nil))
      (pss_cons (ps_set (i := 5) scCt.nd rfl (Or.inl rfl) (pe_lst (pa_c (pv 2) pa_nil)))
      (pss_cons (ps_set (i := 6) scCt.nd rfl (Or.inl rfl) pe_int)
      (pss_cons (ps_while PassesOwn.never (pt_cmpR op_lt (pv 6) (pe_callB call_len_seq rfl T.len bLen (pa_c (pv 5) pa_nil)) (nomark _))
        (pss_cons (ps_for PassesOwn.never rfl (pi_range1 rfl T.range (pa_c (pe_callB call_len_seq rfl T.len bLen (pa_c (pv 1) pa_nil)) pa_nil)) (pg_name (i := 7) scCt.nd rfl (Or.inl rfl))
          (pss_one (ps_if (PW.pt (pw_and (pt_cmpR op_in_seq (pe_ix ix_tup (pv 1) (pv 7) (fun _ _ => rfl)) (pv 3) rfl)
            (pw_and (pt_cmpR op_in_seq (pe_ix ix_list (pv 5) (pv 6) (fun _ _ => rfl)) (pe_ix ix_tup (pe_ix ix_tup (pv 0) pe_int (fun _ _ => rfl)) (pv 7) (fun _ _ => rfl)) rfl)
              (pw_and1 (pt_cmpR op_notIn_seq (pv 7) (pv 4) rfl)))))
            (pss_cons (ps_expr (pe_bm PySem.F.plainAttrs_list PySem.F.slot_list_append PySem.F.type_list_append mt_append (pv 4) (pa_c (pv 7) pa_nil)))
            (pss_one (ps_for PassesOwn.never rfl (pi_tup (pe_ix ix_tup (pe_ix ix_tup (pv 0) pe_int (fun _ _ => rfl)) (pv 7) (fun _ _ => rfl))) (pg_name (i := 8) scCt.nd rfl (Or.inl rfl))
              (pss_one (ps_if (pt_cmpR op_notIn_seq (pv 8) (pv 5) rfl)
                (pss_one (ps_expr (pe_bm PySem.F.plainAttrs_list PySem.F.slot_list_append PySem.F.type_list_append mt_append (pv 5) (pa_c (pv 8) pa_nil)))) pss_nil))))) pss_nil)))
        (pss_one (ps_set (i := 6) scCt.nd rfl (Or.inl rfl) (pe_op op_add (pv 6) pe_int)))))
      (pss_one (ps_ret (pe_callB call_sortedL rfl hso bSorted (pa_c (pv 4) pa_nil))))))), ?_⟩
    have h60 := N.n60
    have hlen := N.len
    refine ⟨Nat.zero_le _, fun me hme => ?_⟩
    refine ⟨_, rfl, (by show 1 ≤ sizeLine; decide), fun kn hkn => ?_⟩
    have hkH : H kn = none := (same_new hme).none hkn
    have hmk : me ≠ kn := fun z => by rw [← z, upd_same] at hkn; cases hkn
    refine ⟨fun m σ G => ∃ (a : Nat) (met known : List Nat) (v7 v8 : Option V), m = n - a ∧ a ≤ known.length ∧ σ = [some (.ref p), some (.ref r), some (.int (pt : Int)), some (.ref pr), some (.ref me), some (.ref kn), some (.int (a : Int)), v7, v8] ∧ Same H G ∧ G me = some (.lst (nl met)) ∧ G kn = some (.lst (nl known)) ∧ Cm es tl u v pt n a met known,
      ⟨_, 0, [], [pt], _, _, rfl, Nat.zero_le _, rfl, (same_new hme).wr hkH, by rw [upd_ne hmk, upd_same]; rfl, by rw [upd_same]; rfl, Cm.start hpt⟩, ?_⟩
    rintro m σ G ⟨a, met, known, v7, v8, rfl, hal, rfl, SG, gm, gk, C⟩
    have hkl : known.length ≤ n := len_lt C.kn C.klt
    refine ⟨_, rfl, _, rfl, kn, _, rfl, .inl (SqL.of gk), _, _, rfl, rfl, _, rfl, ?_⟩
    rw [nl_len]
    refine ite2 (fun hz => ?_) (fun hz => ?_)
    · have ha : a < known.length := by have := of_decide_eq_true hz; omega
      obtain ⟨x, hx⟩ : ∃ x, known[a]? = some x := ⟨_, List.getElem?_eq_getElem ha⟩
      refine ⟨fun σ' G => ∃ m', m' < n - a ∧ ∃ (a : Nat) (met known : List Nat) (v7 v8 : Option V), m' = n - a ∧ a ≤ known.length ∧ σ' = [some (.ref p), some (.ref r), some (.int (pt : Int)), some (.ref pr), some (.ref me), some (.ref kn), some (.int (a : Int)), v7, v8] ∧ Same H G ∧ G me = some (.lst (nl met)) ∧ G kn = some (.lst (nl known)) ∧ Cm es tl u v pt n a met known, fun _ _ h => h, ?_⟩
      refine ⟨_, rfl, r, _, rfl, .inr (SqT.of (SG _ _ hR)), _, rfl, (by rw [tv_len]; omega), (by rw [tv_len]; omega), for_range (lo := 0) (n := (((tv tl).length : Nat) : Int).toNat) (fun k σ G => ∃ (met known : List Nat) (v7 v8 : Option V), σ = [some (.ref p), some (.ref r), some (.int (pt : Int)), some (.ref pr), some (.ref me), some (.ref kn), some (.int (a : Int)), v7, v8] ∧ Same H G ∧ G me = some (.lst (nl met)) ∧ G kn = some (.lst (nl known)) ∧ Cm es tl u v pt n a met known ∧ known[a]? = some x ∧ ∀ j, j < k → InP tl u v j → At (es.getD j (0, 0)) x → j ∈ met)
        ⟨met, known, _, _, rfl, SG, gm, gk, C, hx, fun j hj => absurd hj (Nat.not_lt_zero _)⟩ (fun k σ G hk ⟨met, known, v7, v8, e, SG, gm, gk, C, hx, hc⟩ => ?_) (fun σ G ⟨met, known, v7, v8, e, SG, gm, gk, C, hx, hc⟩ => ?_)⟩
      · subst e
        rw [tv_len] at hk
        have hke : k < es.length := by omega
        have hkt : k < tl.length := by omega
        obtain ⟨ak, hak, hta⟩ := N.at' hke
        have hok := N.ok _ (getD_mem hke)
        have hgk := tv_get (List.getElem?_eq_getElem hkt)
        have skip : ¬ (InP tl u v k ∧ At (es.getD k (0, 0)) x ∧ k ∉ met) → ∀ j, j < k + 1 → InP tl u v j → At (es.getD j (0, 0)) x → j ∈ met := fun hn j hj a1 a2 => by
          by_cases e : j = k
          · subst e
            exact Classical.byContradiction fun z => hn ⟨a1, a2, z⟩
          · exact hc j (by omega) a1 a2
        refine ⟨_, rfl, _, rfl, r, _, _, _, rfl, rfl, SqT.of (SG _ _ hR), (by rw [Int.zero_add]; exact atI_nat hgk), _, rfl, pr, _, rfl, .inl (SqL.of (SG _ _ hpr)), flat_tN _, flat_nl _, _, rfl, ?_⟩
        refine ite2 (fun h1 => ?_) (fun h1 => ?_)
        · have i1 := (in_pair (List.getElem?_eq_getElem hkt)).mp h1
          refine ⟨_, rfl, _, rfl, kn, _, _, _, rfl, rfl, SqL.of gk, atI_nat (nl_get hx), _, rfl, p, _, _, _, rfl, rfl, SqT.of (SG _ _ N.e1), rfl, _, rfl, qa, _, _, _, rfl, rfl, SqT.of (SG _ _ N.e2), (by rw [Int.zero_add]; exact atI_nat hak), ak, _, rfl, .inr (SqT.of (SG _ _ hta)), rfl, rfl, _, rfl, ?_⟩
          refine ite2 (fun h2 => ?_) (fun h2 => ?_)
          · have i2 := (in_at _ _).mp h2
            refine ⟨_, rfl, _, rfl, me, _, rfl, .inl (SqL.of gm), rfl, flat_nl _, _, rfl, ?_⟩
            refine ite2 (fun h3 => ?_) (fun h3 => ?_)
            · have i3 : k ∉ met := fun z => by
                have h4 : (!inV (.int (0 + (k : Int))) (nl met)) = true := h3
                rw [Int.zero_add, (in_nl k met).mpr z] at h4
                cases h4
              have hml : met.length ≤ es.length := len_lt C.mn fun j hj => (C.mr j hj).1
              have hkl2 : known.length ≤ n := len_lt C.kn C.klt
              refine ⟨_, rfl, .inl ⟨rfl, _, SqL.of gm⟩, _, rfl, me, _, _, rfl, rfl, gm, (by rw [nl_len, sizeLine_eq]; omega), ?_⟩
              rw [Int.zero_add, nl_app]
              have SN : Same H (upd G me (.lst (nl (met ++ [k])))) := SG.wr hme
              have gk1 : (upd G me (.lst (nl (met ++ [k])))) kn = some (.lst (nl known)) := by rw [upd_ne (Ne.symm hmk)]; exact gk
              refine ⟨_, rfl, p, _, _, _, rfl, rfl, SqT.of (SN _ _ N.e1), rfl, _, rfl, qa, _, _, _, rfl, rfl, SqT.of (SN _ _ N.e2), atI_nat hak, ak, rfl, ⟨_, SqT.of (SN _ _ hta)⟩, for_tup (K := K) (a := ak) (xs := [.int ((es.getD k (0, 0)).1 : Int), .int ((es.getD k (0, 0)).2 : Int)])
                (fun j σ G => ∃ (w8 : Option V), σ = [some (.ref p), some (.ref r), some (.int (pt : Int)), some (.ref pr), some (.ref me), some (.ref kn), some (.int (a : Int)), some (.int (k : Int)), w8] ∧ Same H G ∧ G me = some (.lst (nl (met ++ [k]))) ∧ G kn = some (.lst (nl (KJ known (es.getD k (0, 0)) j))))
                ⟨_, rfl, SN, upd_same, gk1⟩ (fun j σ G _ ⟨_, _, z, _⟩ => SqT.of (z _ _ hta)) (fun j y σ G hy ⟨w8, e, SG, gm, gk⟩ => ?_) (fun σ G ⟨w8, e, SG, gm, gk⟩ => ?_)⟩
              · subst e
                obtain ⟨z, rfl, hkj, hjl⟩ : ∃ z : Nat, y = V.int (z : Int) ∧ KJ known (es.getD k (0, 0)) (j + 1) = addN (KJ known (es.getD k (0, 0)) j) z ∧ (KJ known (es.getD k (0, 0)) j).length ≤ known.length + 1 := by
                  match j, hy with
                  | 0, hy => cases hy; exact ⟨_, rfl, rfl, Nat.le_succ _⟩
                  | 1, hy => cases hy; exact ⟨_, rfl, rfl, addN_len⟩
                generalize KJ known (es.getD k (0, 0)) j = L at *
                refine ⟨_, rfl, _, rfl, kn, _, rfl, .inl (SqL.of gk), rfl, flat_nl _, _, rfl, ?_⟩
                refine ite2 (fun h5 => ?_) (fun h5 => ?_)
                · have i5 : z ∉ L := fun y => by
                    have h4 : (!inV (.int (z : Int)) (nl L)) = true := h5
                    rw [(in_nl z L).mpr y] at h4
                    cases h4
                  refine ⟨_, rfl, .inl ⟨rfl, _, SqL.of gk⟩, _, rfl, kn, _, _, rfl, rfl, gk, (by rw [nl_len, sizeLine_eq]; omega), ?_⟩
                  rw [nl_app]
                  refine ⟨_, rfl, SG.wr hkH, by rw [upd_ne hmk]; exact gm, ?_⟩
                  rw [upd_same, hkj]
                  unfold addN
                  rw [if_neg i5]
                · have i5 : z ∈ L := Classical.byContradiction fun y => h5 (by
                    show (!inV (.int (z : Int)) (nl L)) = true
                    rw [Bool.eq_false_iff.mpr fun y' => y ((in_nl z L).mp y')]
                    rfl)
                  refine ⟨_, rfl, SG, gm, ?_⟩
                  rw [hkj, addN_in i5]
                  exact gk
              · subst e
                refine ⟨met ++ [k], _, _, _, rfl, SG, gm, gk, C.add hx hke i1 i2 i3 hok.1 hok.2.1, addN_get (addN_get hx), fun j hj a1 a2 => ?_⟩
                by_cases e : j = k
                · subst e
                  exact List.mem_append_right _ (List.mem_singleton.mpr rfl)
                · exact List.mem_append_left _ (hc j (by omega) a1 a2)
            · exact ⟨met, known, _, _, rfl, SG, gm, gk, C, hx, skip fun z => h3 (by
                show (!inV (.int (0 + (k : Int))) (nl met)) = true
                rw [Int.zero_add, Bool.eq_false_iff.mpr fun y => z.2.2 ((in_nl k met).mp y)]
                rfl)⟩
          · refine iteF ?_
            exact ⟨met, known, _, _, rfl, SG, gm, gk, C, hx, skip fun z => h2 ((in_at _ _).mpr z.2.1)⟩
        · refine iteF ?_
          exact ⟨met, known, _, _, rfl, SG, gm, gk, C, hx, skip fun z => h1 ((in_pair (List.getElem?_eq_getElem hkt)).mpr z.1)⟩
      · subst e
        have hal2 : a < known.length := (List.getElem?_eq_some_iff.mp hx).1
        have hkl2 : known.length ≤ n := len_lt C.kn C.klt
        refine ⟨_, rfl, _, _, rfl, rfl, n - (a + 1), by omega, a + 1, met, known, _, _, rfl, by omega, rfl, SG, gm, gk, C.next hx fun k hk a1 a2 => hc k ?_ a1 a2⟩
        rw [tv_len]
        omega
    · have ha : known.length ≤ a := Nat.le_of_not_lt fun z => hz (decide_eq_true (Int.ofNat_lt.mpr z))
      have hml : met.length ≤ es.length := len_lt C.mn fun j hj => (C.mr j hj).1
      have hmi : nl met = (met.map fun x : Nat => (x : Int)).map V.int := by unfold nl; rw [List.map_map]; rfl
      refine ⟨_, rfl, me, met.map fun x : Nat => (x : Int), rfl, SqL.of (by rw [← hmi]; exact gm), by rw [List.length_map]; omega, fun l ns' H2 s2 hl hp hs => ?_⟩
      obtain ⟨hnl, hperm⟩ := ints_nat hp
      rw [hnl] at hl
      have hd := C.done ha
      refine q H2 l _ known (Same.trans SG s2) hl (rising_of (ints_rise hs) (hperm.nodup_iff.mpr C.mn)) (fun k => hperm.mem_iff.trans (hd k)) C.kn (fun k hk => C.me k (hperm.mem_iff.mp hk)) ?_ C.kr
      rw [hperm.length_eq]
      exact C.le
end
end My

set_option Elab.async false
set_option linter.all false
set_option maxRecDepth 100000
set_option maxHeartbeats 4000000
namespace SetT
open PySem PySem.SetTable PySem.Spec PyProof.Rows
/-- the number in a value -/
def ival : Value → Int
  | .int i _ => i
  | _ => 0
def byT (w : World) : Bool := w.params.followText "set-order"
/-- the set at a holds the ints ks, its table is a good one -/
def SI (prog : Program) (w : World) (h : Heap) (a : Addr) (ks : List Int) : Prop :=
  ∃ o es ep t, h.get? a = some o ∧ o.ExactSet ∧ o.data = .set es ep t ∧ SetOk t es ∧ Mk t.mask ∧ es.size * 5 < t.mask * 3 ∧ t.plain = true ∧ t.led = !byT w ∧ ElemsOf (intKind prog w) es.toList ∧ (es.toList.map fun e => ival e.2).Perm ks
variable {prog : Program} {w : World} {A : Around} {E : Value → Shared → Prop} {s : Shared}
theorem SI.at' {h h' : Heap} {a : Addr} {ks : List Int} (x : SI prog w h a ks) (k : ∀ o, h.get? a = some o → h'.get? a = some o) : SI prog w h' a ks := let ⟨o, es, ep, t, ho, r⟩ := x; ⟨o, es, ep, t, k o ho, r⟩
theorem perm_of : ∀ {a l : List Nat}, a.Nodup → (∀ x ∈ a, x ∈ l) → a.length = l.length → a.Perm l
  | [], l, _, _, h => by
    cases l with
    | nil => exact .nil
    | cons _ _ => cases h
  | x :: a, l, nd, sub, h => by
    have hx := sub x (.head _)
    have hp := List.perm_cons_erase hx
    refine (List.Perm.cons x (perm_of (List.nodup_cons.mp nd).2 (fun y hy => ?_) ?_)).trans hp.symm
    · have hne : y ≠ x := fun e => (List.nodup_cons.mp nd).1 (e ▸ hy)
      exact (List.mem_erase_of_ne hne).mpr (sub y (.tail _ hy))
    · rw [List.length_erase_of_mem hx]
      rw [List.length_cons] at h
      omega
theorem relay_all {t : SetTable} {es : Array (Int × Value)} {wanted : Nat} (hf : fullB (sizeAbove wanted - 1) = true) (ho : (sizeAbove wanted - 1) % 2 = 1) (hl : es.size ≤ sizeAbove wanted - 1) :
    ∃ t' es' g, relayAll t es wanted = (es', t', g) ∧ SetOk t' es' ∧ t'.mask = sizeAbove wanted - 1 ∧ t'.plain = t.plain ∧ t'.led = t.led := by
  obtain ⟨t', order, r1, r2, r3, r4, r5, r6, r7⟩ := relaid_ok (t := t) hf ho hl
  refine ⟨t', order.filterMap (es[·]?), false, ?_, r3, r4, r5, r6⟩
  have hc : coversAll order es.size = true := by
    obtain ⟨owner, e0, L⟩ := lay_ok hf (es.map (·.1)) (by rw [Array.size_map]; exact hl)
    rw [Array.size_map] at L
    have eo : order = ((liveL (sizeAbove wanted - 1) owner).map (·.2)).toArray := by
      unfold SetTable.relaid SetTable.laid at r1
      rw [e0] at r1
      exact (congrArg Prod.snd (Option.some.inj r1)).symm
    unfold coversAll
    rw [List.isPerm_iff, eo]
    refine (perm_of List.nodup_range (fun m hm => ?_) ?_).symm
    · rw [List.mem_range] at hm
      obtain ⟨j, hj⟩ := L.has m hm
      have hjs : j < sizeAbove wanted - 1 + 1 := by rw [← L.size]; exact (Array.getElem?_eq_some_iff.mp hj).1
      exact List.mem_map.mpr ⟨(j, m), mem_live.mpr ⟨hjs, hj⟩, rfl⟩
    · show (List.range es.size).length = ((liveL (sizeAbove wanted - 1) owner).map (·.2)).length
      rw [List.length_range, List.length_map, live_len L]
  have hfit : t'.fits (order.filterMap (es[·]?)).size = true := fits_of r3 (by rw [r2, r4]; omega)
  unfold relayAll
  rw [r1]
  dsimp only
  rw [hc, hfit]
  rfl
theorem lay_new {t : SetTable} {es : Array (Int × Value)} {h : Int} {x : Value} (ok : SetOk t es) (room : es.size < t.mask) :
    ∃ t' es' g, layNew t es h x = (es', t', false, g) ∧ SetOk t' es' ∧ t'.mask = t.mask ∧ t'.plain = t.plain ∧ t'.led = t.led ∧ es'.size = es.size + 1 := by
  obtain ⟨k0, hlt0, hk0, hl⟩ := first_empty ok (by omega) (bits h) (bits_lt _)
  have hjlt := posLt t.mask (bits h) k0
  have ins := insert_ok (x := x) ok hk0 hjlt hl
  have b1' : below t.place (pos t.mask (bits h) k0) ≤ es.size := by rw [← ok.size]; exact (below_spec ok.rise _).1
  have isz := insertAt_size es (below t.place (pos t.mask (bits h) k0)) (h, x) b1'
  have hfree : t.freeSlot h = some (pos t.mask (bits h) k0, false) := by
    unfold SetTable.freeSlot SetTable.probe
    rw [stk_zero]
    rcases go_spec ok (f := fun _ => h + 1) (h := h) hk0 hl (10 * turns t.mask) 0 (Nat.zero_le _) (by omega) with ⟨e, _⟩ | ⟨k1, i, _, _, _, _, e, _⟩
    · rw [e]; rfl
    · omega
  refine ⟨_, _, false, ?_, ins, rfl, rfl, rfl, isz⟩
  have hfit := fits_of ins (by show (insertAt es (below t.place (pos t.mask (bits h) k0)) (h, x)).size < t.mask + 1; omega)
  unfold layNew
  rw [hfree]
  dsimp only
  rw [put_eq ok.nod]
  dsimp only
  unfold SetTable.orStandIn
  rw [hfit]
  rfl
theorem good_size {m n : Nat} (mk : Mk m) (fl : n * 5 < m * 3) (hn : n ≤ 250) (tf : (n + 1) * 5 ≥ m * 3) : Mk (sizeAbove (grown (n + 1)) - 1) ∧ (n + 1) * 5 < (sizeAbove (grown (n + 1)) - 1) * 3 := by
  have cs : (m = 7 ∧ n + 1 = 5) ∨ (m = 31 ∧ n + 1 = 19) ∨ (m = 127 ∧ n + 1 = 77) := by
    rcases mk with q | q | q | q <;> omega
  rcases cs with ⟨_, q⟩ | ⟨_, q⟩ | ⟨_, q⟩ <;> rw [q]
  · exact ⟨.inr (.inl (by decide)), by decide⟩
  · exact ⟨.inr (.inr (.inl (by decide))), by decide⟩
  · exact ⟨.inr (.inr (.inr (by decide))), by decide⟩
theorem is_ival {k : Int} {v : Value} (h : (intKind prog w).is k v = true) : ival v = k := by
  obtain ⟨t, e⟩ := Value.isInt_shape (k := k) (v := v) h
  rw [e]; rfl
theorem add_int {a : Addr} {ks : List Int} {k : Int} {x : Value} {Q : Bool → Shared → Prop} (hkey : (intKind prog w).is k x = true) (hS : SI prog w s.heap a ks) (hb : ks.length ≤ 250)
    (h : ∀ h' r, Heap.SameBut a s.heap h' → SI prog w h' a (step_dedup ks k) → Q r { s with heap := h' }) :
    wpAny (model prog w) A (setAddHashed a x ((intKind prog w).hash k)) Q E s := by
  obtain ⟨o, es, ep, t, ho, hex, hd, ok, mk, fl, hpl, hled, hel, hp⟩ := hS
  have hlen : es.size = ks.length := by have := hp.length_eq; simpa using this
  have hsc : x.scannable = true := by obtain ⟨tk, e⟩ := Value.isInt_shape (k := k) (v := x) hkey; rw [e]; rfl
  have hpk : plainKind x = true := by obtain ⟨tk, e⟩ := Value.isInt_shape (k := k) (v := x) hkey; rw [e]; rfl
  have hsb : es.size < scanBound := by unfold scanBound; omega
  have hf := fits_of ok (by omega)
  unfold setAddHashed setAddHashedIn
  refine wpAny_holding (wpAny_bind (wpAny_setState_of ho hd hf ?_))
  dsimp only
  rw [byScan_of hsc hsb hel]
  simp only [↓reduceIte]
  unfold setAddByScan
  refine wpAny_bind ?_
  refine wpAny_bind (wpAny_rule ?_)
  refine wpAny_bind (wpAny_setScan_of hkey ho hd hf hel ?_)
  cases hr : List.findIdx? (fun e => (intKind prog w).is k e.2) es.toList with
  | some j =>
    dsimp only
    obtain ⟨hj, hpj, _⟩ := List.findIdx?_eq_some_iff_getElem.mp hr
    refine wpAny_pure (wpAny_pure ?_)
    have e : s = { s with heap := s.heap } := by cases s; rfl
    rw [e]
    refine h s.heap _ (Heap.SameBut.refl a s.heap) ?_
    have hin : k ∈ ks := hp.mem_iff.mp (List.mem_map.mpr ⟨es.toList[j], List.getElem_mem hj, is_ival hpj⟩)
    unfold step_dedup
    rw [if_pos (show (ks.any fun x => x == k) = true from List.any_eq_true.mpr ⟨k, hin, beq_self_eq_true k⟩)]
    exact ⟨o, es, ep, t, ho, hex, hd, ok, mk, fl, hpl, hled, hel, hp⟩
  | none =>
    dsimp only
    have hno : k ∉ ks := fun z => by
      obtain ⟨e, he, e2⟩ := List.mem_map.mp (hp.mem_iff.mpr z)
      obtain ⟨⟨k', hk', _⟩, _⟩ := hel e he
      have h2 := is_ival hk'
      rw [e2] at h2
      subst h2
      have := List.findIdx?_eq_none_iff.mp hr e he
      rw [hk'] at this
      exact Bool.noConfusion this
    have hstep : step_dedup ks k = ks ++ [k] := by
      unfold step_dedup
      rw [if_neg fun z => ?_]
      obtain ⟨y, hy, e⟩ := List.any_eq_true.mp z
      exact hno (by rw [← eq_of_beq e]; exact hy)
    rw [hstep] at h
    have hgw : ∀ (b : Bool) {s₁ : Shared} {Q' : Unit → Shared → Prop}, Q' () s₁ → wpAny (model prog w) A (match b with | true => rule "set.scan.the-table-gave-way" | false => pure ()) Q' E s₁ :=
      fun b s₁ Q' hq => by cases b <;> first | exact wpAny_pure hq | exact wpAny_rule hq
    have hperm := layNew_perm t es ((intKind prog w).hash k) x
    obtain ⟨t1, es1, gave, hL, ok1, em1, epl1, eled1, esz1⟩ := lay_new (h := (intKind prog w).hash k) (x := x) ok (by omega)
    rw [hL] at hperm ⊢
    dsimp only at hperm ⊢
    rw [Array.toList_push] at hperm
    have hel1 : ElemsOf (intKind prog w) es1.toList := (hel.push hkey hsc).perm hperm
    have hp1 : (es1.toList.map fun e => ival e.2).Perm (ks ++ [k]) := by
      refine (hperm.map _).trans ?_
      rw [List.map_append]
      refine hp.append ?_
      show List.Perm [ival x] [k]
      rw [is_ival hkey]
    have hpl1 : t1.plain = true := by rw [epl1, hpl]
    have hled1 : t1.led = !byT w := by rw [eled1, hled]
    refine wpAny_bind (hgw _ ?_)
    rw [hpl1]
    simp only [↓reduceIte]
    refine wpAny_bind ?_
    rw [hashByValue_scannable 8 hsc, hpk]
    refine wpAny_pure ?_
    simp only [↓reduceIte]
    refine wpAny_bind (wpAny_storeSet_of ho hd ?_ (by rw [sizeLine_eq]; omega))
    have hsb1 := Heap.SameBut.update s.heap a (Obj.putSet es1 t1)
    have ho1 := store_at (es' := es1) (t' := t1) ho hd
    by_cases tf : t1.tooFull = true
    · rw [tf]
      simp only [Bool.not_false, Bool.and_self, if_true]
      have big : (es.size + 1) * 5 ≥ t.mask * 3 := by
        unfold SetTable.tooFull SetTable.fill at tf
        rw [ok1.size, ok1.nod, em1, esz1] at tf
        exact of_decide_eq_true tf
      obtain ⟨g1, g2⟩ := good_size mk fl (by omega) big
      obtain ⟨t2, es2, gave2, hR, ok2, em2, epl2, eled2⟩ := relay_all (t := t1) (es := es1) (wanted := grown es1.size) (by rw [esz1]; exact g1.full.1) (by rw [esz1]; exact g1.full.2) (by rw [esz1]; omega)
      have hpr := relayAll_perm t1 es1 (grown es1.size)
      rw [hR] at hpr ⊢
      dsimp only at hpr ⊢
      have hsz2 : es2.size = es1.size := by rw [← Array.length_toList, hpr.length_eq, Array.length_toList]
      refine wpAny_bind (hgw _ ?_)
      refine wpAny_bind (wpAny_storeSet_of ho1 rfl ?_ (by rw [sizeLine_eq]; omega))
      refine wpAny_pure ?_
      dsimp only
      refine wpAny_pure (h _ _ (hsb1.trans (Heap.SameBut.update _ a _)) ⟨_, es2, _, t2, store_at ho1 rfl, hex, rfl, ok2, by rw [em2, esz1]; exact g1, by rw [em2, hsz2, esz1]; exact g2, by rw [epl2]; exact hpl1, by rw [eled2]; exact hled1, hel1.perm hpr, (hpr.map _).trans hp1⟩)
    · rw [Bool.eq_false_iff.mpr tf]
      simp only [Bool.not_false, Bool.and_false, Bool.false_eq_true, if_false]
      have small : es1.size * 5 < t1.mask * 3 := by
        unfold SetTable.tooFull SetTable.fill at tf
        rw [ok1.size, ok1.nod] at tf
        exact Nat.lt_of_not_le fun z => tf (decide_eq_true z)
      refine wpAny_pure ?_
      dsimp only
      exact wpAny_pure (h _ _ hsb1 ⟨_, es1, _, t1, ho1, hex, rfl, ok1, by rw [em1]; exact mk, small, hpl1, hled1, hel1, hp1⟩)
end SetT

set_option Elab.async false
set_option linter.all false
set_option maxRecDepth 100000
set_option maxHeartbeats 4000000
namespace SetT
open PySem PySem.SetTable PySem.Spec PyProof.Rows
theorem fresh_int {prog : Program} {w : World} {h : Heap} {a : Addr} (hget : h.get? a = some { cls := .type "set", dict := none, data := .set #[] 0 (.fresh 0 0 (!byT w)) }) : SI prog w h a [] := by
  refine ⟨_, #[], 0, .fresh 0 0 (!byT w), hget, ⟨rfl, rfl, rfl⟩, rfl, ⟨full7, (by show 7 % 2 = 1; decide), rfl, fun i j _ h => absurd h (Nat.not_lt_zero _), fun i v h => ?_, rfl, fun i v e h => ?_⟩, .inl rfl, (by show 0 * 5 < 7 * 3; decide), rfl, rfl, fun e he => ?_, .nil⟩
  · exact absurd (show (#[] : Array Nat)[i]? = some v from h) (by simp)
  · exact absurd (show (#[] : Array Nat)[i]? = some v from h) (by simp)
  · simp at he
section
variable {prog : Program} {w : World} {A : Around} {R : Result → Shared → Prop} {I : Addr} {fp wr : List Addr} {G : Array GenState → Array GenState → Prop} {n : Nat} {P : Nat → Value → Prop} {St : Nat → Shared → Prop}
theorem int_loop (W : WalksS prog w A.in1 I fp wr G n P St) (S : Addr) (hSf : S ∉ fp) (val : Nat → Int) (hval : ∀ i v, P i v → ∃ t, v = .int (val i) t) (hb : n ≤ 250) :
    ∀ (k i : Nat) (s : Shared), n - i = k → i ≤ n → St i s → SI prog w s.heap S (firstMet val i) →
      (∀ s', Moved (S :: wr) G s s' → SI prog w s'.heap S (firstMet val n) → R (.ok (.ret .none)) s') →
      codeAny (model prog w) A (.builtin "set.update.loop" ⟨[.ref S, .ref I], []⟩) R s := by
  have hSw : S ∉ wr := fun h => hSf (W.sub _ h)
  have hsub : ∀ b ∈ wr, b ∈ S :: wr := fun b hb => List.mem_cons_of_mem _ hb
  intro k
  induction k with
  | zero =>
    intro i s hk hi hst hS hR
    have hin : i = n := by omega
    subst hin
    refine codeAny_builtin F.entry_set_update_loop ?_
    rw [Around.under_plainId F.plain_set_update_loop _]
    show wpAny _ A.in1 (pyNext (.ref I) >>= _) _ _ s
    refine wpAny_bind (W.done s _ _ hst fun s' hm => ?_)
    show wpAny _ A.in1 (ret Value.none) _ _ s'
    exact wpAny_pure (hR s' (hm.mono hsub) (hS.at' fun o e => hm.heap S o hSw e))
  | succ k ih =>
    intro i s hk hi hst hS hR
    have hlt : i < n := by omega
    refine codeAny_builtin F.entry_set_update_loop ?_
    rw [Around.under_plainId F.plain_set_update_loop _]
    show wpAny _ A.in1 (pyNext (.ref I) >>= _) _ _ s
    refine wpAny_bind (W.item i s _ _ hlt hst fun v s' hP hst' hm => ?_)
    obtain ⟨t, rfl⟩ := hval i v hP
    have hS' := hS.at' fun o e => hm.heap S o hSw e
    show wpAny _ A.in1 (holding [Value.int (val i) t] (setAdd S (.int (val i) t)) >>= _) _ _ s'
    refine wpAny_bind (wpAny_holding ?_)
    unfold setAdd
    refine wpAny_holding ?_
    refine wpAny_bind ((intKind prog w).pyHash (k := val i) (intKind_is _ _ _ _) ?_)
    have hlen := firstMet_length_le val i
    refine add_int (s := { s' with toks := s'.toks + 1 }) (intKind_is _ _ _ _) hS' (by omega) fun h' r hsb hS2 => ?_
    rw [← firstMet_succ] at hS2
    refine wpAny_pure ⟨plainId_quiet F.plain_set_update_loop _, ih (i + 1) _ (by omega) hlt (W.frame _ s' _ _ hst' (Nat.le_succ _) fun b hb o e => ?_) hS2 fun s'' hm'' hS'' => ?_⟩
    · rw [hsb.2 b (fun h : b = S => hSf (by rw [← h]; exact hb))]; exact e
    · refine hR s'' (Moved.trans W.gtrans ((hm.mono hsub).then_heap (Nat.le_succ _) fun b o hb e => ?_) hm'') hS''
      rw [hsb.2 b (fun h : b = S => hb (by rw [h]; exact List.mem_cons_self))]; exact e
end
variable {prog : Program} {w : World} {A : Around} {E : Value → Shared → Prop} {s : Shared}
theorem new_led (a : Value) {Q₁ : Value → Shared → Prop}
    (h : Q₁ (.ref s.heap.objs.size) { s with heap := s.heap.push { cls := .type "set", dict := none, data := .set #[] 0 (.fresh 0 0 (!byT w)) } }) :
    codeAny (model prog w) A (.call (.builtin "set.__new__") ⟨[.type "set", a], []⟩) (wants Q₁ E) s := by
  refine codeAny_of_tree ?_
  show wpAny _ A.in1 (do checkBuiltinCall "set.__new__" ⟨[.type "set", a], []⟩; again (.builtin "set.__new__" ⟨[.type "set", a], []⟩)) _ _ s
  refine wpAny_bind (wpAny_of_eq (F.newCall_set_1 a) (wpAny_pure ⟨plainId_quiet F.plain_set_new _, codeAny_builtin F.entry_set_new ?_⟩))
  rw [Around.under_plainId F.plain_set_new _]
  unfold Builtin.«set.__new__» Builtin.Frozenset.newClass
  have hsub := sub_set_self
  obtain ⟨hp, g, d, tk, os⟩ := s
  dsimp only
  wp_walk
  refine wpAny_askSetting (wpAny_pure ?_)
  dsimp only
  simp only [newObj]
  refine wpAny_bind (wpAny_alloc (wpAny_pure ?_))
  exact wpAny_pure h
theorem call_set_ints {l : Addr} {items : Array Value} {ns : List Int} {Q : Value → Shared → Prop}
    (hh : A.handled = none) (hl : s.heap.IsList l items) (hi : IntsAre items.toList ns) (hb : items.size ≤ 250)
    (h : ∀ (h' : Heap) (tk : Nat), SI prog w h' s.heap.objs.size (firstMet (fun i => ns.getD i 0) items.size) →
      (∀ b o, b < s.heap.objs.size → s.heap.get? b = some o → h'.get? b = some o) → Q (.ref s.heap.objs.size) { s with heap := h', toks := tk }) :
    wpAny (model prog w) A (call (.type "set") [.ref l]) Q E s := by
  obtain ⟨c, tl, hmro⟩ := F.called_set.mro
  have hmade := F.called_set.made
  have hsub := F.called_set.sub
  refine wpAny_call (codeAny_of_tree ?_)
  show wpAny _ _ (callAny (.type "set") _) _ _ _
  refine wpAny_pure ⟨Code.quiet_builtin _ (by decide +kernel), codeAny_builtin F.entry_type_call ?_⟩
  rw [Around.under_plain (weight_type_call_type "set" [.ref l] []) rfl]
  have h1 := F.called_set.notType
  have h2 := F.called_set.canCreate
  have hct := F.typeCall_set_1 (.ref l)
  repeat (any_goals (first | assumption | wp_step))

  refine codeAny_mono (new_led (prog := prog) (w := w) (.ref l) (E := E) (Q₁ := fun obj s₁ => obj = .ref s.heap.objs.size ∧ s₁ = { s with heap := s.heap.push { cls := .type "set", dict := none, data := .set #[] 0 (.fresh 0 0 (!byT w)) } }) ⟨rfl, rfl⟩) fun r s₁ hr => ?_
  cases r with
  | error e => exact hr
  | ok fl =>
    cases fl with
    | ret obj =>
      obtain ⟨rfl, rfl⟩ := hr
      have hS : (s.heap.push { cls := .type "set", dict := none, data := .set #[] 0 (.fresh 0 0 (!byT w)) }).get? s.heap.objs.size = some { cls := .type "set", dict := none, data := .set #[] 0 (.fresh 0 0 (!byT w)) } := Heap.get?_push_size _ rfl
      have hT : Shared.TypeIs { s with heap := s.heap.push { cls := .type "set", dict := none, data := .set #[] 0 (.fresh 0 0 (!byT w)) } } (.ref s.heap.objs.size) "set" := ⟨_, hS, rfl⟩
      have hli := F.called_set.init.lookup
      have hbi := F.called_set.init.bind (.ref s.heap.objs.size)
      repeat (any_goals (first | assumption | wp_step))

      refine codeAny_mono (codeAny_call_builtin (R := wants (fun r s₂ => r = .none ∧ ∃ h' tk, s₂ = { s with heap := h', toks := tk } ∧
          SI prog w h' s.heap.objs.size (firstMet (fun i => ns.getD i 0) items.size) ∧
          (∀ b o, b < s.heap.objs.size → s.heap.get? b = some o → h'.get? b = some o)) E) F.called_set.init.plain F.entry_set_init (check_set_init_1 hT ?_)) fun r₂ s₂ hr₂ => ?_
      · obtain ⟨ol, hol, hcl, nl, hdl⟩ := hl
        obtain ⟨ocls, odict, odata, oslots⟩ := ol
        simp only at hcl hdl
        subst hcl; subst hdl
        have hol' : (s.heap.push { cls := .type "set", dict := none, data := .set #[] 0 (.fresh 0 0 (!byT w)) }).get? l = some { cls := .type "list", dict := odict, data := .seq items nl, slots := oslots } := Heap.get?_push_of_some _ hol
        have hsls := F.sub_list_set
        have hslf := F.sub_list_frozenset
        have hne : (Value.type "list" == Value.type "dict") = false := by decide
        have hl1 : (s.heap.push { cls := .type "set", dict := none, data := .set #[] 0 (.fresh 0 0 (!byT w)) }).IsList l items := ⟨_, hol', rfl, nl, rfl⟩
        unfold Builtin.«set.__init__» noKeywords Builtin.Frozenset.updateFrom
        generalize hPI : pyIter = PI
        wp_walk
        subst hPI

        refine wpAny_pyIter_list hl1 ?_
        refine wpAny_bind (wpAny_runValue ?_)
        have hlS : l < s.heap.objs.size := Heap.lt_size hol
        have hh3 : A.in1.in1.in1.handled = none := by simp [hh]
        have hneI : l ≠ (s.heap.push { cls := .type "set", dict := none, data := .set #[] 0 (.fresh 0 0 (!byT w)) }).objs.size := by
          rw [Heap.size_push]; exact Nat.ne_of_lt (Nat.lt_succ_of_lt hlS)
        have hSf : s.heap.objs.size ∉ [(s.heap.push { cls := .type "set", dict := none, data := .set #[] 0 (.fresh 0 0 (!byT w)) }).objs.size, l] := by
          rw [Heap.size_push]; simp only [List.mem_cons, List.mem_singleton, List.not_mem_nil, or_false, not_or]
          exact ⟨Nat.ne_of_lt (Nat.lt_succ_self _), Nat.ne_of_gt hlS⟩
        have hval : ∀ (i : Nat) (v : Value), items[i]? = some v → ∃ t, v = .int ((fun i => ns.getD i 0) i) t := fun i v hv =>
          IntsAre.int_at hi i v (by rw [Array.getElem?_toList]; exact hv)
        refine int_loop ((Walks.list hh3 _ l hneI items).toS) s.heap.objs.size
          hSf (fun i => ns.getD i 0) hval hb (items.size - 0) 0 _ (by omega) (Nat.zero_le _)
          ⟨⟨_, Heap.get?_push_size _ rfl, rfl, rfl⟩, (hl1.push _)⟩ ?hS0 ?hR
        case hS0 =>
          have hget : ((s.heap.push { cls := .type "set", dict := none, data := .set #[] 0 (.fresh 0 0 (!byT w)) }).push { cls := .type "list_iterator", data := .fields #[.ref l, .int 0 0] }).get? s.heap.objs.size
              = some { cls := .type "set", dict := none, data := .set #[] 0 (.fresh 0 0 (!byT w)) } := Heap.get?_push_of_some _ hS
          exact fresh_int hget
        case hR =>
          intro s' hm hS'
          obtain ⟨h', g', d', tk', os'⟩ := s'
          have eg : g' = s.gens := hm.gens
          have ed : d' = s.drawn := hm.drawn
          have eo : os' = s.os := hm.os
          subst eg; subst ed; subst eo
          show wpAny _ _ _ _ _ _
          refine wpAny_pure ?_
          show wpAny _ _ (ret Value.none) _ _ _
          refine wpAny_pure ⟨rfl, h', tk', rfl, hS', fun b o hb e => ?_⟩
          have hb1 : b ≠ s.heap.objs.size := Nat.ne_of_lt hb
          have hb2 : b ≠ (s.heap.push { cls := .type "set", dict := none, data := .set #[] 0 (.fresh 0 0 (!byT w)) }).objs.size := by
            rw [Heap.size_push]; exact Nat.ne_of_lt (Nat.lt_succ_of_lt hb)
          exact hm.heap b o (by simp only [List.mem_cons, List.mem_singleton, List.not_mem_nil, or_false, not_or]; exact ⟨hb1, hb2⟩) (Heap.get?_push_of_some _ (Heap.get?_push_of_some _ e))

      · cases r₂ with
        | error e => exact hr₂
        | ok fl₂ =>
          cases fl₂ with
          | ret r =>
            obtain ⟨rfl, h', tk, rfl, hS', hk'⟩ := hr₂
            repeat (any_goals (first | assumption | wp_step))
            exact h _ _ hS' hk'
          | _ => exact hr₂.elim
    | _ => exact hr.elim
end SetT

set_option Elab.async false
set_option linter.all false
set_option maxRecDepth 100000
set_option maxHeartbeats 4000000
namespace SetT
open PySem PySem.SetTable PySem.Spec PyProof.Rows
theorem slot_si_next : Slot "set_iterator" "__next__" "set_iterator.__next__" :=
  .of (owner := "set_iterator") (n := "__next__") (by rw [typeLookup_type, builtinLookup_eq_fast]; kernel_rfl) (by decide +kernel) (by decide +kernel) (by decide +kernel)
    (by first | exact .inl (by decide +kernel) | exact .inr (by decide +kernel)) (by rw [isSubtype_type]; kernel_rfl)
theorem entry_si_next : entryFor table "set_iterator.__next__" = some Builtin.«set_iterator.__next__» := entryFor_of_tree (by kernel_rfl)
theorem owner_si : Manifest.owners.lookup (String.ofList ['r', 'o', 't', 'a', 'r', 'e', 't', 'i', '_', 't', 'e', 's'].reverse) = some Manifest.sig_set_iterator := by kernel_rfl
theorem args_si_next (a : Value) : argsOk "set_iterator.__next__" ⟨[a], []⟩ := by
  unfold argsOk; rw [signature?_of (id := "set_iterator.__next__") (n := ['_', '_', 't', 'x', 'e', 'n', '_', '_']) (o := ['r', 'o', 't', 'a', 'r', 'e', 't', 'i', '_', 't', 'e', 's']) (by kernel_rfl) owner_si]; kernel_rfl
theorem slot_si_iter : Slot "set_iterator" "__iter__" "set_iterator.__iter__" :=
  .of (owner := "set_iterator") (n := "__iter__") (by rw [typeLookup_type, builtinLookup_eq_fast]; kernel_rfl) (by decide +kernel) (by decide +kernel) (by decide +kernel)
    (by first | exact .inl (by decide +kernel) | exact .inr (by decide +kernel)) (by rw [isSubtype_type]; kernel_rfl)
theorem entry_si_iter : entryFor table "set_iterator.__iter__" = some Builtin.«dict_keyiterator.__iter__» :=
  entryFor_alias (id' := "dict_keyiterator.__iter__") (by kernel_rfl) rfl (by decide +kernel) (by kernel_rfl)
theorem args_si_iter (a : Value) : argsOk "set_iterator.__iter__" ⟨[a], []⟩ := by
  unfold argsOk; rw [signature?_of (id := "set_iterator.__iter__") (n := ['_', '_', 'r', 'e', 't', 'i', '_', '_']) (o := ['r', 'o', 't', 'a', 'r', 'e', 't', 'i', '_', 't', 'e', 's']) (by kernel_rfl) owner_si]; kernel_rfl
theorem entry_set_iter : entryFor table "set.__iter__" = some Builtin.«frozenset.__iter__» :=
  entryFor_alias (id' := "frozenset.__iter__") (by kernel_rfl) rfl (by decide +kernel) (by kernel_rfl)
/-- the order by the text: each once -/
theorem pick_perm {α : Type} (next : Nat → Nat) : ∀ (fuel k : Nat) (left : List α) (out : Array α), left.length = fuel → (pickOrder.go next fuel k left out).toList.Perm (out.toList ++ left)
  | 0, k, left, out, h => by
    rw [List.length_eq_zero_iff.mp h, List.append_nil]
    exact .rfl
  | fuel + 1, k, left, out, h => by
    unfold pickOrder.go
    have hlt : next k % left.length < left.length := Nat.mod_lt _ (by omega)
    rw [List.getElem?_eq_getElem hlt]
    dsimp only
    refine (pick_perm next fuel (k + 1) _ _ (by rw [List.length_eraseIdx, if_pos hlt]; omega)).trans ?_
    rw [Array.toList_push, List.append_assoc]
    refine List.Perm.append_left _ ?_
    show List.Perm ([left[next k % left.length]] ++ left.eraseIdx (next k % left.length)) left
    generalize next k % left.length = i at *
    rw [List.eraseIdx_eq_take_drop_succ]
    have e : left = left.take i ++ left[i] :: left.drop (i + 1) := by rw [← List.drop_eq_getElem_cons hlt, List.take_append_drop]
    refine List.Perm.trans ?_ (List.Perm.of_eq e.symm)
    exact (List.perm_middle (a := left[i]) (l₁ := left.take i) (l₂ := left.drop (i + 1))).symm
/-- the order in which a set's elements come -/
def ordOf (w : World) (a : Addr) (ep : Nat) (es : Array (Int × Value)) : Array (Int × Value) := if byT w = true then pickOrder (w.params.setOrder a ep) es else es
theorem ord_perm (w : World) (a : Addr) (ep : Nat) (es : Array (Int × Value)) : (ordOf w a ep es).toList.Perm es.toList := by
  unfold ordOf
  split
  · unfold pickOrder
    have := pick_perm (w.params.setOrder a ep) es.size 0 es.toList #[] (by simp)
    simpa using this
  · exact .rfl
theorem ord_size (w : World) (a : Addr) (ep : Nat) (es : Array (Int × Value)) : (ordOf w a ep es).size = es.size := by
  rw [← Array.length_toList, (ord_perm w a ep es).length_eq, Array.length_toList]
def IsSI (h : Heap) (it a : Addr) (slot i n ep : Nat) : Prop := ∃ o, h.get? it = some o ∧ o.cls = .type "set_iterator" ∧ o.data = .fields #[.int slot 0, .int i 0, .ref a, .int n 0, .int ep 0]
theorem IsSI.typeIs {s : Shared} {it a : Addr} {slot i n ep : Nat} (x : IsSI s.heap it a slot i n ep) : s.TypeIs (.ref it) "set_iterator" := let ⟨o, ho, hc, _⟩ := x; ⟨o, ho, hc⟩
variable {prog : Program} {w : World} {A : Around} {E : Value → Shared → Prop} {s : Shared}
theorem below_next {xs : Array Nat} (hr : Rise xs) {i j : Nat} (h : xs[i]? = some j) : below xs (j + 1) = i + 1 := by
  obtain ⟨b1, b2, b3⟩ := below_spec hr (j + 1)
  obtain ⟨h1, h2⟩ := getD_of h
  rcases Nat.lt_trichotomy (below xs (j + 1)) (i + 1) with z | z | z
  · have h3 := b3 i (by omega) h1
    omega
  · exact z
  · have h3 := b2 (i + 1) z
    have h4 := hr i (i + 1) (Nat.lt_succ_self i) (by omega)
    omega
theorem below_zero {xs : Array Nat} (hr : Rise xs) : below xs 0 = 0 := by
  obtain ⟨b1, b2, b3⟩ := below_spec hr 0
  cases hz : below xs 0 with
  | zero => rfl
  | succ m => exact absurd (b2 m (by omega)) (Nat.not_lt_zero _)
theorem set_next {a : Addr} {o : Obj} {es : Array (Int × Value)} {ep : Nat} {t : SetTable} {slot i : Nat} {Q : Option (Value × Nat) → Shared → Prop} (ho : s.heap.get? a = some o) (hd : o.data = .set es ep t) (ok : SetOk t es) (hf : t.fits es.size = true)
    (hpl : t.plain = true) (hled : t.led = !byT w) (hsl : byT w = false → below t.place slot = i)
    (h : ∀ slot' : Nat, (byT w = false → i < es.size → below t.place slot' = i + 1) → Q (((ordOf w a ep es)[i]?).map fun e => (e.2, slot')) s) :
    wpAny (model prog w) A (setNext a slot i ep) Q E s := by
  unfold setNext
  refine wpAny_bind (wpAny_setState_of ho hd hf ?_)
  dsimp only
  unfold setsByText
  refine wpAny_bind (wpAny_bind (wpAny_askSetting (wpAny_pure ?_)))
  show wpAny _ _ (if byT w = true then _ else _) _ _ _
  cases hb : byT w with
  | true =>
    simp only [↓reduceIte, bne_self_eq_false, Bool.false_eq_true]
    unfold setWalk
    refine wpAny_bind (wpAny_bind (wpAny_setState_of ho hd hf ?_))
    dsimp only
    unfold setsByText
    refine wpAny_bind (wpAny_bind (wpAny_askSetting (wpAny_pure ?_)))
    show wpAny _ _ (if byT w = true then _ else _) _ _ _
    rw [hb]
    simp only [↓reduceIte]
    refine wpAny_bind (wpAny_askSetting (wpAny_pure ?_))
    refine wpAny_pure ?_
    have := h slot (fun z => by rw [hb] at z; cases z)
    unfold ordOf at this
    rw [if_pos hb] at this
    exact this
  | false =>
    simp only [Bool.false_eq_true, ↓reduceIte]
    refine wpAny_ite_split (fun hab => ?_) (fun _ => ?_)
    · have hab' : (!t.plain && decide (es.size > 1)) = true := hab
      rw [hpl] at hab'
      cases hab'
    · refine wpAny_bind ?_
      show wpAny _ _ (if (!t.led && !es.isEmpty) = true then unsupported "set:maker-not-led" else pure ()) _ _ _
      rw [hled, hb]
      simp only [Bool.not_false, Bool.not_true, Bool.false_and, Bool.false_eq_true, ↓reduceIte]
      refine wpAny_pure ?_
      rw [hsl hb]
      by_cases hi : i < es.size
      · have hp : t.place[i]? = some (t.place.getD i 0) := of_getD (by rw [ok.size]; exact hi)
        have h2 := h (t.place.getD i 0 + 1) (fun _ _ => below_next ok.rise hp)
        unfold ordOf at h2
        rw [if_neg (by rw [hb]; exact Bool.false_ne_true), Array.getElem?_eq_getElem hi] at h2
        rw [Array.getElem?_eq_getElem hi, hp]
        exact wpAny_pure h2
      · have h2 := h 0 (fun _ z => absurd z hi)
        unfold ordOf at h2
        rw [if_neg (by rw [hb]; exact Bool.false_ne_true), Array.getElem?_eq_none (by omega)] at h2
        rw [Array.getElem?_eq_none (by omega)]
        exact wpAny_pure h2
end SetT

set_option Elab.async false
set_option linter.all false
set_option maxRecDepth 100000
set_option maxHeartbeats 4000000
namespace SetT
open PySem PySem.SetTable PySem.Spec PyProof.Rows
variable {prog : Program} {w : World} {A : Around} {E : Value → Shared → Prop} {s : Shared}
theorem iter_set {a : Addr} {o : Obj} {es : Array (Int × Value)} {ep : Nat} {t : SetTable} {Q : Value → Shared → Prop} (ho : s.heap.get? a = some o) (hex : o.ExactSet) (hd : o.data = .set es ep t) (hf : t.fits es.size = true) (hpl : t.plain = true)
    (hQ : Q (.ref s.heap.objs.size) { s with heap := s.heap.push { cls := .type "set_iterator", data := .fields #[.int 0 0, .int 0 0, .ref a, .int es.size 0, .int ep 0] } }) :
    wpAny (model prog w) A (pyIter (.ref a)) Q E s := by
  have hT : s.TypeIs (.ref a) "set" := ⟨o, ho, hex.1⟩
  refine wpAny_pyIter_slot hT PySem.F.slot_set_iter (wpAny_call_entry PySem.F.slot_set_iter hT entry_set_iter ?_ (PySem.F.args_set_iter_1 _))
  unfold Builtin.«frozenset.__iter__»
  refine wpAny_bind (wpAny_of_eq (a := a) (by rfl) ?_)
  unfold Builtin.Frozenset.sizeOf
  refine wpAny_bind (wpAny_bind (wpAny_setEntries_of ho hd hf (wpAny_pure ?_)))
  unfold setDrawn
  refine wpAny_bind (wpAny_bind (wpAny_setState_of ho hd hf ?_))
  dsimp only
  unfold setsByText
  refine wpAny_bind (wpAny_bind (wpAny_askSetting (wpAny_pure ?_)))
  refine wpAny_pure ?_
  refine wpAny_ite_split (fun hab => ?_) (fun _ => ?_)
  · have hab' : (!byT w && (!t.plain && decide (es.size > 1))) = true := hab
    rw [hpl] at hab'
    simp at hab'
  refine wpAny_bind (wpAny_pure ?_)
  refine wpAny_bind (wpAny_setEpoch_of ho hd hf ?_)
  refine wpAny_bind (wpAny_newObj_type (wpAny_pure ⟨_, rfl, "set_iterator", _, ⟨_, Heap.get?_push_size _ rfl, rfl⟩, slot_si_next.lookup, ?_⟩))
  simpa [rawInt] using hQ
theorem next_item {it a : Addr} {o : Obj} {es : Array (Int × Value)} {ep slot i : Nat} {t : SetTable} {Q : Option Value → Shared → Prop} (hit : IsSI s.heap it a slot i es.size ep) (ho : s.heap.get? a = some o) (hd : o.data = .set es ep t) (ok : SetOk t es) (hf : t.fits es.size = true)
    (hpl : t.plain = true) (hled : t.led = !byT w) (hsl : byT w = false → below t.place slot = i) (hi : i < es.size)
    (hQ : ∀ v h' slot', (ordOf w a ep es)[i]?.map (·.2) = some v → IsSI h' it a slot' (i + 1) es.size ep → (byT w = false → below t.place slot' = i + 1) → Heap.SameBut it s.heap h' → Q (some v) { s with heap := h' }) :
    wpAny (model prog w) A (pyNext (.ref it)) Q E s := by
  obtain ⟨oi, hoi, hci, hdi⟩ := id hit
  unfold pyNext
  refine wpAny_bind (wpAny_attempt (wpAny_callSpecial?_slot (name := Str.ofString "__next__") hit.typeIs slot_si_next
    (wpAny_call_entry slot_si_next hit.typeIs entry_si_next ?_ (args_si_next _))))
  unfold Builtin.«set_iterator.__next__»
  refine wpAny_bind (wpAny_of_eq (a := (.ref it, [])) (by rfl) ?_)
  refine wpAny_bind (wpAny_fieldsOf hoi hdi ?_)
  dsimp only
  refine wpAny_bind (wpAny_setEntries_of ho hd hf ?_)
  rw [if_neg (by simp)]
  dsimp only [Int.toNat_natCast]
  refine wpAny_bind (set_next ho hd ok hf hpl hled hsl fun slot' hs' => ?_)
  have hio : i < (ordOf w a ep es).size := by rw [ord_size]; exact hi
  rw [Array.getElem?_eq_getElem hio]
  dsimp only [Option.map_some]
  refine wpAny_bind (wpAny_setField hoi hdi (by simp) ?_)
  have hoi1 := Heap.get?_update_self (Obj.mapFields (·.setIfInBounds 0 (rawInt (slot' : Int)))) hoi (Obj.isFreed_of_fields (Obj.data_mapFields hdi _))
  have hdi1 := Obj.data_mapFields hdi (·.setIfInBounds 0 (rawInt (slot' : Int)))
  refine wpAny_bind (wpAny_setField (s := { s with heap := s.heap.update it (Obj.mapFields (·.setIfInBounds 0 (rawInt (slot' : Int)))) }) hoi1 hdi1 (by simp) ?_)
  have hoi2 := Heap.get?_update_self (Obj.mapFields (·.setIfInBounds 1 (rawInt ((i : Int) + 1)))) hoi1 (Obj.isFreed_of_fields (Obj.data_mapFields hdi1 _))
  have hdi2 := Obj.data_mapFields hdi1 (·.setIfInBounds 1 (rawInt ((i : Int) + 1)))
  have hit' : IsSI ((s.heap.update it (Obj.mapFields (·.setIfInBounds 0 (rawInt (slot' : Int))))).update it (Obj.mapFields (·.setIfInBounds 1 (rawInt ((i : Int) + 1))))) it a slot' (i + 1) es.size ep :=
    ⟨_, hoi2, (Obj.cls_mapFields ..).trans ((Obj.cls_mapFields ..).trans hci), by rw [hdi2]; simp [rawInt]⟩
  exact wpAny_pure ⟨_, rfl, wpAny_pure (hQ _ _ slot' (by rw [Array.getElem?_eq_getElem hio]; rfl) hit' (fun z => hs' z hi) ((Heap.SameBut.update ..).trans (Heap.SameBut.update ..)))⟩
theorem next_end {it a : Addr} {o : Obj} {es : Array (Int × Value)} {ep slot : Nat} {t : SetTable} {Q : Option Value → Shared → Prop} (hh : A.handled = none) (hit : IsSI s.heap it a slot es.size es.size ep) (ho : s.heap.get? a = some o) (hd : o.data = .set es ep t) (ok : SetOk t es) (hf : t.fits es.size = true)
    (hpl : t.plain = true) (hled : t.led = !byT w) (hsl : byT w = false → below t.place slot = es.size)
    (hQ : ∀ h', Heap.ExtBut it s.heap h' → Q none { s with heap := h' }) :
    wpAny (model prog w) A (pyNext (.ref it)) Q E s := by
  obtain ⟨oi, hoi, hci, hdi⟩ := id hit
  unfold pyNext
  refine wpAny_bind (wpAny_attempt (wpAny_callSpecial?_slot (name := Str.ofString "__next__") hit.typeIs slot_si_next
    (wpAny_call_entry slot_si_next hit.typeIs entry_si_next ?_ (args_si_next _))))
  unfold Builtin.«set_iterator.__next__»
  refine wpAny_bind (wpAny_of_eq (a := (.ref it, [])) (by rfl) ?_)
  refine wpAny_bind (wpAny_fieldsOf hoi hdi ?_)
  dsimp only
  refine wpAny_bind (wpAny_setEntries_of ho hd hf ?_)
  rw [if_neg (by simp)]
  dsimp only [Int.toNat_natCast]
  refine wpAny_bind (set_next ho hd ok hf hpl hled hsl fun slot' hs' => ?_)
  rw [Array.getElem?_eq_none (by rw [ord_size]; exact Nat.le_refl _)]
  dsimp only [Option.map_none]
  refine wpAny_bind (wpAny_setField hoi hdi (by simp) ?_)
  refine wpAny_bind ?_
  simp only [newExc, newTuple]
  refine wpAny_bind (wpAny_newObj_type ?_ (by size_fits))
  refine wpAny_bind (m := firstArgMember _ _) (wpAny_of_eq (a := Value.none) (by first | rfl | (simp only [firstArgMember]; rfl)) ?_)
  refine wpAny_newObj_type ?_ (by size_fits)
  simp only [raiseNew]
  refine wpAny_bind (wpAny_handled ?_)
  rw [show A.in1.handled = none from hh]
  refine wpAny_bind (wpAny_pure (wpAny_throw ?_))
  refine wpAny_bind (wpAny_isInstance (T := "StopIteration") (b := true) ⟨_, Heap.get?_push_size _ rfl, rfl⟩ isSubtype_stop ?_)
  exact wpAny_pure (hQ _ (((Heap.SameBut.update ..).extBut.push _).push _))
theorem iter_si {it a : Addr} {slot i n ep : Nat} {Q : Value → Shared → Prop} (hit : IsSI s.heap it a slot i n ep) (h : Q (.ref it) s) : wpAny (model prog w) A (pyIter (.ref it)) Q E s := by
  refine wpAny_pyIter_slot hit.typeIs slot_si_iter (wpAny_call_entry slot_si_iter hit.typeIs entry_si_iter ?_ (args_si_iter _))
  show wpAny _ _ (ret (.ref it)) _ _ s
  exact wpAny_pure ⟨_, rfl, "set_iterator", _, hit.typeIs, slot_si_next.lookup, h⟩
end SetT

set_option Elab.async false
set_option linter.all false
set_option maxRecDepth 100000
set_option maxHeartbeats 4000000
namespace SetT
open PySem PySem.SetTable PySem.Spec PyProof.Rows
variable {prog : Program} {w : World} {A : Around} {E : Value → Shared → Prop} {s : Shared}
theorem hint_set {r : Addr} {Q : Bool → Shared → Prop} (hT : s.TypeIs (.ref r) "set") (h : Q false s) : wpAny (model prog w) A (Builtin.List.listLengthHint (.ref r)) Q E s := by
  unfold Builtin.List.listLengthHint
  refine wpAny_bind (wpAny_specialOf hT PySem.F.slot_set_len.lookup ?_)
  generalize hid : ("set.__len__" : String) = id0
  wp_delta
  rw [show splitId id0 = some ("set", "__len__") from by subst hid; decide +kernel]
  subst hid
  refine wpAny_bind (wpAny_isInstance (T := "set") (b := true) hT (by rw [isSubtype_type]; kernel_rfl) ?_)
  refine wpAny_ite_split (fun hab => absurd hab (by decide)) (fun _ => ?_)
  refine wpAny_ite_split (fun _ => ?_) (fun hab => absurd (by decide +kernel) hab)
  refine wpAny_bind (wpAny_typeOf hT ?_)
  exact wpAny_pure h
theorem walks_set (hh : A.handled = none) (I a : Addr) (hne : a ≠ I) {o : Obj} {es : Array (Int × Value)} {ep : Nat} {t : SetTable} (hd : o.data = .set es ep t) (ok : SetOk t es) (hf : t.fits es.size = true) (hpl : t.plain = true) (hled : t.led = !byT w) :
    Walks prog w A I [I, a] [I] es.size (fun i v => (ordOf w a ep es)[i]?.map (·.2) = some v) (fun i h => (∃ slot, IsSI h I a slot i es.size ep ∧ (byT w = false → below t.place slot = i)) ∧ h.get? a = some o) where
  sub := fun b hb => by simp at hb; simp [hb]
  frame := fun i h h' ⟨⟨slot, ⟨oi, hoi, r⟩, hs⟩, ho⟩ hk => ⟨⟨slot, ⟨oi, hk I (by simp) oi hoi, r⟩, hs⟩, hk a (by simp) o ho⟩
  item := fun i s Q E hi ⟨⟨slot, hit, hs⟩, ho⟩ hQ => next_item hit ho hd ok hf hpl hled hs hi fun v h' slot' hv hit' hs' sb => hQ v h' s.toks hv ⟨⟨slot', hit', hs'⟩, (sb.2 a hne).trans ho⟩ fun b o hb e => (sb.2 b (fun z => hb (by simp [z]))).trans e
  done := fun s Q E ⟨⟨slot, hit, hs⟩, ho⟩ hQ => next_end hh hit ho hd ok hf hpl hled hs fun h' he' => hQ h' s.toks fun b o hb e => he' b o (fun z => hb (by simp [z])) e
  self := fun _ _ _ _ ⟨⟨slot, hit, hs⟩, ho⟩ hQ => iter_si hit hQ
theorem kdl_set {a : Addr} {o : Obj} {es : Array (Int × Value)} {ep : Nat} {t : SetTable} (hex : o.ExactSet) (hd : o.data = .set es ep t) (ok : SetOk t es) (hf : t.fits es.size = true) (hpl : t.plain = true) (hled : t.led = !byT w) :
    PySem.W.KdlSrc prog w "set" a a es.size (fun i v => (ordOf w a ep es)[i]?.map (·.2) = some v) (fun h => h.get? a = some o) where
  type := fun _ ho => ⟨o, ho, hex.1⟩
  there := fun _ ho => ⟨Heap.lt_size ho, Heap.lt_size ho⟩
  keep := fun _ _ ho hk => hk a (.inl rfl) o ho
  notList := by decide
  notTuple := by decide
  hint := fun _ _ _ _ ho hq => hint_set ⟨o, ho, hex.1⟩ hq
  iter := fun _ s hh ho => ⟨_, _, (fun _ _ hq => iter_set ho hex hd hf hpl hq), walks_set hh _ a (Nat.ne_of_lt (Heap.lt_size ho)) hd ok hf hpl hled, ⟨⟨0, ⟨_, Heap.get?_push_size _ rfl, rfl, rfl⟩, fun _ => below_zero ok.rise⟩, Heap.get?_push_of_some _ ho⟩⟩
theorem sorted_set {a : Addr} {ks : List Int} {Q : Value → Shared → Prop} (hh : A.handled = none) (hS : SI prog w s.heap a ks) (h64 : ks.length < 64)
    (h : ∀ (h' : Heap) (tk : Nat) (p : Addr) (out : Array Value) (e : Nat) (ns' : List Int), (∀ b o, s.heap.get? b = some o → h'.get? b = some o) → s.heap.objs.size ≤ p → h'.get? p = some (seqObj "list" out e) → IntsAre out.toList ns' → ns'.Perm ks → ns'.Pairwise (· ≤ ·) → Q (.ref p) { s with heap := h', toks := tk }) :
    wpAny (model prog w) A (call (.builtin "sorted") [.ref a]) Q E s := by
  obtain ⟨o, es, ep, t, ho, hex, hd, ok, mk, fl, hpl, hled, hel, hp⟩ := hS
  have hf := fits_of ok (by omega)
  have hlen : es.size = ks.length := by have := hp.length_eq; simpa using this
  refine Calls.call_function_entry kind_sorted plain_sorted entry_sorted (args_sorted1 _) ?_
  unfold Builtin.«sorted»
  refine wpAny_bind (m := checkCount "sorted" 1 1 _) (wpAny_pure ?_)
  refine wpAny_bind (PySem.W.dcollect (A := A.in1) (kdl_set hex hd ok hf hpl hled) (by simp [hh]) ho (by rw [sizeLine_eq]; omega) fun h1 tk acc hk1 hsz hacc => ?_)
  have hl1 : acc.toList.length = es.size := by rw [Array.length_toList]; exact hacc.1
  refine wpAny_bind (wpAny_newList ?_ (by rw [hl1, sizeLine_eq]; omega))
  have hoL : (h1.push (seqObj "list" acc.toList.toArray 0)).get? h1.objs.size = some (seqObj "list" acc.toList.toArray 0) := Heap.get?_push_size _ rfl
  have hI : IntsAre acc.toList ((ordOf w a ep es).toList.map fun e => ival e.2) := by
    have key : ∀ (vs : List Value) (ls : List (Int × Value)), vs.length = ls.length → (∀ (i : Nat) v, vs[i]? = some v → ls[i]?.map (·.2) = some v) → (∀ e ∈ ls, ∃ t, e.2 = .int (ival e.2) t) → IntsAre vs (ls.map fun e => ival e.2) := by
      intro vs
      induction vs with
      | nil => intro ls hl _ _; cases ls with | nil => exact .nil | cons _ _ => cases hl
      | cons v vs ih =>
        intro ls hl hv hi
        cases ls with
        | nil => cases hl
        | cons m ls =>
          have h0 : m.2 = v := Option.some.inj (hv 0 v rfl)
          obtain ⟨t, et⟩ := hi m (.head _)
          rw [List.map_cons, ← h0, et]
          exact .cons _ _ (ih ls (by simpa using hl) (fun i v' hv' => hv (i + 1) v' (by simpa using hv')) fun e he => hi e (.tail _ he))
    refine key _ _ (by rw [hl1, Array.length_toList, ord_size]) (fun i v hv => ?_) fun e he => ?_
    · have := hacc.2 i v (by rw [← Array.getElem?_toList]; exact hv)
      rw [Array.getElem?_toList]
      exact this
    · obtain ⟨⟨k', hk', _⟩, _⟩ := hel e ((ord_perm w a ep es).mem_iff.mp he)
      obtain ⟨tk, e2⟩ := Value.isInt_shape (k := k') (v := e.2) hk'
      exact ⟨tk, by rw [e2]; rfl⟩
  have hpp : ((ordOf w a ep es).toList.map fun e => ival e.2).Perm ks := ((ord_perm w a ep es).map _).trans hp
  refine wpAny_bind (wpAny_holding (wpAny_call_entry slot_list_sort ⟨_, hoL, rfl⟩ entry_list_sort (list_sort_tree hoL hI (by omega) fun out ns' a1 a2 a3 => ⟨_, rfl, ?_⟩) (args_list_sort _)))
  obtain ⟨e, he⟩ := sortedHeap_at (out := out) hoL
  refine wpAny_pure ⟨_, rfl, h _ tk h1.objs.size out e ns' (fun b o eb => ?_) ?_ he a1 (a2.trans hpp) a3⟩
  · have hlt : b < h1.objs.size := Heap.lt_size (hk1 b o eb)
    rw [sortedHeap_old (Nat.ne_of_lt hlt) (by rw [size_push']; exact Nat.lt_succ_of_lt hlt)]
    exact Heap.get?_push_of_some _ (hk1 b o eb)
  · exact Nat.le_of_lt hsz
end SetT
namespace L2
open PySem PySem.Spec PyProof.Rows SetT
section
variable {X : Cx}
def siHO (P : Program) (w : World) (a : Addr) (ks : List Int) : HO := .ext fun h => SI P w h a ks
theorem si_ok {P : Program} {w : World} {H : Hp} {h : Heap} {a : Addr} {ks : List Int} (x : SI P w h a ks) : ObjOk P w H h a (siHO P w a ks) :=
  ⟨x, let ⟨o, _, _, _, ho, _⟩ := x; ⟨o, ho⟩, fun h1 h2 x k => x.at' k⟩
def rSetZ (P : Program) (w : World) (K : PySem.W.Frag) : List V → Hp → VK → Prop := fun xs H Q => ∃ p, ∃ ns : List Int, xs = [.ref p] ∧ SqL K H p (ns.map V.int) ∧ ns.length ≤ 250 ∧ ∀ q H', Same H H' → H' q = some (siHO P w q (firstMet (fun i => ns.getD i 0) ns.length)) → Q (.ref q) H'
theorem call_setL {k : Nat} (hr : Room k X.A) : CallR X (.type "set") (rSetZ X.prog X.w X.K) := by
  intro pins s σ H xs us Q I r h
  obtain ⟨p, ns, rfl, hp, h250, q⟩ := h
  obtain ⟨u, rfl, rx⟩ := vals1 r
  cases (show u = Value.ref p from rx)
  obtain ⟨its, rv, pl, hz⟩ := I.list hp
  have hvl := rv.length
  rw [List.length_map] at hvl
  refine call_set_ints (ns := ns) hr.hd pl.isList (by simpa using ints_of rv) (by rw [List.size_toArray, ← hvl]; exact h250) fun h' tk hS kp => ?_
  have esz : its.toArray.size = ns.length := by rw [List.size_toArray]; omega
  rw [esz] at hS
  have kp' : ∀ b o, s.heap.get? b = some o → h'.get? b = some o := fun b o e => kp b o (Heap.lt_size e) e
  exact ⟨.ref s.heap.objs.size, _, I.laid (t' := tk) (o := siHO X.prog X.w s.heap.objs.size (firstMet (fun i => ns.getD i 0) ns.length)) kp' (Nat.le_refl _) (si_ok hS), rfl, q _ _ (same_add (I.hok.fresh (Nat.le_refl _))) upd_same⟩
def rSortedS (P : Program) (w : World) : List V → Hp → VK → Prop := fun xs H Q => ∃ a, ∃ ks : List Int, xs = [.ref a] ∧ H a = some (siHO P w a ks) ∧ ks.length < 64 ∧ ∀ p (ns' : List Int) H', Same H H' → H' p = some (.lst (ns'.map V.int)) → ns'.Perm ks → ns'.Pairwise (· ≤ ·) → Q (.ref p) H'
theorem call_sortedS {k : Nat} (hr : Room k X.A) : CallR X (.builtin "sorted") (rSortedS X.prog X.w) := by
  intro pins s σ H xs us Q I r h
  obtain ⟨a, ks, rfl, ha, h64, q⟩ := h
  obtain ⟨u, rfl, rx⟩ := vals1 r
  cases (show u = Value.ref a from rx)
  have hS : SI X.prog X.w s.heap a ks := (I.hok a _ ha).1
  refine sorted_set hr.hd hS h64 fun h' tk p out e ns' kp hp he a1 a2 a3 => ?_
  have hln := a2.length_eq
  refine ⟨.ref p, _, I.laid (t' := tk) (a := p) (o := .lst (ns'.map V.int)) kp hp ?_, rfl, q _ ns' _ (same_add (I.hok.fresh hp)) upd_same a2 a3⟩
  exact ⟨by rw [List.length_map]; exact leMil (by omega), out.toList, e, lst_vals a1, he⟩
theorem mono_sortedS {P : Program} {w : World} {t : TA} (h : MonoA t) : MonoE (tCB (rSortedS P w) t) := fun σ H Q Q' k q => h σ H _ _ (fun vs H1 ⟨a, ks, e1, e2, e3, q⟩ => ⟨a, ks, e1, e2, e3, fun p ns' H' s1 s2 s3 s4 => k _ _ (q p ns' H' s1 s2 s3 s4)⟩) q
end
end L2

set_option Elab.async false
set_option linter.all false
set_option maxRecDepth 100000
set_option maxHeartbeats 4000000
namespace L2
open PySem PySem.Spec PyProof.Rows
section
variable {X : Cx}
/-! ### xs.count(x) -/
def rCount (K : PySem.W.Frag) : V → List V → Hp → VK → Prop := fun x vs H Q => ∃ l, ∃ ns : List Int, ∃ k : Int, x = .ref l ∧ vs = [.int k] ∧ SqL K H l (ns.map V.int) ∧ ns.length ≤ 1000 ∧ Q (.int (ns.count k : Nat)) H
theorem mt_count {K : PySem.W.Frag} (hK : X.K = K) : MtM X "list.count" (rCount K) := by
  subst hK
  intro pins s σ H x vs v us Q I rx rv h
  obtain ⟨l, ns, k, rfl, rfl, hH, hz, q⟩ := h
  cases rx
  obtain ⟨u, rfl, ru⟩ := rv.one
  obtain ⟨t, rfl⟩ := (show ∃ t, u = Value.int k t from ru)
  obtain ⟨its, r, pl, hz'⟩ := I.list hH
  have hvl := r.length
  rw [List.length_map] at hvl
  exact count_list_ints (ns := ns) pl.isList (ints_of r) ⟨.int (ns.count k : Nat), H, I.tok _, ⟨_, rfl⟩, q⟩
theorem pe_bmK {K : PySem.W.Frag} {o e : Expr} {es : List Expr} {to : TE} {t : TA} {name : Str} {apos cpos : Pos} {T : String} {r : V → List V → Hp → VK → Prop} (hK : X.K = K) (h : PE X (.Call (.Attribute o name apos) (e :: es) [] cpos) (tBM X.K T r to t)) : PE X (.Call (.Attribute o name apos) (e :: es) [] cpos) (tBM K T r to t) := hK ▸ h
theorem firstMet_nodup (val : Nat → Int) : ∀ i, (firstMet val i).Nodup
  | 0 => List.nodup_nil
  | i + 1 => by
    rw [firstMet_succ]
    unfold step_dedup
    split
    · exact firstMet_nodup val i
    · rename_i h
      rw [List.nodup_append]
      refine ⟨firstMet_nodup val i, List.nodup_cons.mpr ⟨List.not_mem_nil, List.nodup_nil⟩, fun a ha b hb z => ?_⟩
      rw [List.mem_singleton] at hb
      subst hb z
      exact h (List.any_eq_true.mpr ⟨_, ha, beq_self_eq_true _⟩)
theorem mem_firstMet (ns : List Int) (k : Int) : k ∈ firstMet (fun i => ns.getD i 0) ns.length ↔ k ∈ ns := by
  have key := firstMet_any (fun i => ns.getD i 0) ns.length k
  have e : (List.range ns.length).map (fun i => ns.getD i 0) = ns := by
    refine List.ext_getElem (by simp) fun i h1 h2 => ?_
    simp [List.getD_eq_getElem?_getD, List.getElem?_eq_getElem h2]
  rw [e] at key
  have f : ∀ l : List Int, (l.any (· == k) = true ↔ k ∈ l) := fun l => by
    rw [List.any_eq_true]
    exact ⟨fun ⟨x, hx, e⟩ => by rw [← eq_of_beq e]; exact hx, fun h => ⟨k, h, beq_self_eq_true k⟩⟩
  rw [← f, ← f, key]
end
end L2

set_option Elab.async false
set_option linter.all false
set_option maxRecDepth 100000
set_option maxHeartbeats 4000000
namespace L2
open PySem
theorem mono_setL {P : Program} {w : World} {K : PySem.W.Frag} {t : TA} (h : MonoA t) : MonoE (tCB (rSetZ P w K) t) := fun σ H Q Q' k q => h σ H _ _ (fun vs H1 ⟨p, ns, e1, e2, e3, q⟩ => ⟨p, ns, e1, e2, e3, fun a H' s1 s2 => k _ _ (q a H' s1 s2)⟩) q
end L2
namespace My
open PySem L2 PyProof.Rows
theorem bSet : bootBuiltins "set" = some (.type "set") := by decide +kernel
theorem nl_ints (l : List Nat) : nl l = (l.map fun x : Nat => (x : Int)).map V.int := by unfold nl; rw [List.map_map]; rfl
theorem count_ints (l : List Nat) (x : Nat) : (l.map fun x : Nat => (x : Int)).count (x : Int) = l.count x := by
  induction l with
  | nil => rfl
  | cons y l ih =>
    rw [List.map_cons, List.count_cons, List.count_cons, ih]
    by_cases e : y = x
    · subst e; simp
    · have h1 : ((y : Int) == (x : Int)) = false := beq_eq_false_iff_ne.mpr fun z => e (by omega)
      have h2 : (y == x) = false := beq_eq_false_iff_ne.mpr e
      rw [h1, h2]
section
variable {P : Program} {w : World} {K : PySem.W.Frag} {mg : Str → Option Value} {base : Heap}
/-! ### _law_ends -/
abbrev sEn : Stmt := top 15
abbrev nEn : List Str := ["_law_net_here", "_law_met", "_law_both", "_law_k"]
abbrev enScope : Scope := compScope (retE (stOf 15 2))
def spEn : Sp := fun vs H Q _ => ∃ (p l : Addr) (n : Nat) (q : Addr) (ts : List V) (es : List (Nat × Nat)) (S : List Nat), vs = [.ref p, .ref l] ∧ NetZ H p n q ts es ∧ H l = some (.lst (nl S)) ∧ S.length ≤ 64 ∧ (∀ k ∈ S, k < es.length) ∧
  ∀ H' t (E : List Nat), Same H H' → H' t = some (.lst (nl E)) → E.Pairwise (· < ·) → (∀ x, x ∈ E ↔ deg es S x = 1) → Q (.ref t) H'
theorem ndEn : (["_law_point", "_law_both"] : List Str).Nodup := by decide +kernel
theorem scEn : FnScope nEn ["_law_net_here", "_law_met"] (defScope sEn) := ⟨rfl, rfl, rfl, by decide +kernel, rfl, by decide +kernel, by decide +kernel⟩
theorem blkEn {f : Addr} {cdv : Value} {A : Around} {outer : List Env} {s : Shared} {H : Hp} {E : XK} :
    Blk (cxOf CX0 P w K mg base nEn "_law_ends" (defScope sEn) f cdv A outer s H E).nox enScope [("_law_both", s.heap.objs.size + 1)] ["_law_point", "_law_both"] [none, some 2] := by
  refine ⟨rfl, rfl, by decide +kernel, by decide +kernel, fun p hp => ?_, fun y hy e => ?_, ⟨rfl, rfl, rfl⟩, trivial⟩
  · rw [List.mem_singleton.mp hp]
    rfl
  · have hy' : y ∈ [((PySem.Str.ofString ".0" : Str), NameKind.local), (PySem.Str.ofString "_law_point", .local), (PySem.Str.ofString "_law_both", .free)] := hy
    simp only [List.mem_cons, List.not_mem_nil, or_false] at hy'
    rcases hy' with rfl | rfl | rfl
    · cases e
    · cases e
    · rfl
theorem ok_en {f : Addr} {fd : FuncData} (F : Fun K "_law_ends" "_law_ends" sEn f fd) (T : Bi mg) (hso : mg "sorted" = none) (hse : mg "set" = none) : FnOk P w K mg base CX0 1 f fd ["_law_net_here", "_law_met"] spEn := by
  refine F.ok scEn (fun vs H Q E h => ?_) (fun cdv A outer s H vs Q E hr h => ?_)
  · obtain ⟨p, l, n, q, ts, es, S, rfl, _⟩ := h
    rfl
  · obtain ⟨p, l, n, qa, ts, es, S, rfl, N, hL, h64, hSl, q⟩ := h
    refine ⟨_, pss_cons (ps_set (i := 2) scEn.nd rfl (Or.inr rfl) (pe_lst pa_nil))
      (pss_cons (ps_for PassesOwn.never rfl (pi_list (pv 1)) (pg_name (i := 3) scEn.nd rfl (Or.inl rfl))
        (pss_one (ps_set (i := 2) scEn.nd rfl (Or.inr rfl) (pe_op op_catLS (pv 2) (pe_callTy call_list_ofS rfl T.list bList (pa_c (pe_ix ix_tup (pe_ix ix_tup (pv 0) pe_int (fun _ _ => rfl)) (pv 3) (fun _ _ => rfl)) pa_nil))))))
      (pss_one (ps_ret (pe_lcL blkEn rfl (pe_callB (call_sortedS hr) rfl hso bSorted (pa_c (pe_callTy (call_setL hr) rfl hse bSet (pa_c (pv 2) pa_nil)) pa_nil)) (mono_sortedS (monoA_cons (mono_setL (monoA_cons (mono_var 2) monoA_nil)) monoA_nil)) (fun C fp s H => pg_name (i := 0) ndEn rfl (Or.inl rfl))
        (fun C fp s H => pts_one (pt_cmpR op_eq (pe_bmK (K := K) rfl (pe_bm PySem.F.plainAttrs_list PySem.F.slot_list_count PySem.F.type_list_count (mt_count (K := K) rfl) (pv 1) (pa_c (pv 0) pa_nil))) pe_int (nomark _))) (fun C fp s H => pv 0))))), ?_⟩
    have h60 := N.n60
    refine ⟨Nat.zero_le _, fun b0 hb0 => ?_⟩
    have hlS : H b0 = none := hb0
    refine ⟨_, rfl, l, rfl, ⟨_, SqL.of (same_new hb0 _ _ hL)⟩, for_list (K := K) (a := l) (xs := nl S) (fun i σ G => ∃ (b : Addr) (B : List Nat) (v3 : Option V), σ = [some (.ref p), some (.ref l), some (.ref b), v3] ∧ Same H G ∧ G b = some (.lst (nl B)) ∧ (∀ x, B.count x = deg es (S.take i) x) ∧ B.length = 2 * i ∧ ∀ x ∈ B, x < n)
      ⟨b0, [], _, rfl, same_new hb0, by rw [upd_same]; rfl, fun x => rfl, rfl, fun x hx => by cases hx⟩ (fun i σ G _ ⟨_, _, _, _, z, _⟩ => SqL.of (z _ _ hL)) (fun i y σ G hy ⟨b, B, v3, e, SG, gb, hc, hbl, hbn⟩ => ?_) (fun σ G ⟨b, B, v3, e, SG, gb, hc, hbl, hbn⟩ => ?_)⟩
    · subst e
      obtain ⟨k, hk, rfl⟩ : ∃ k, S[i]? = some k ∧ y = V.int (k : Int) := by
        unfold nl at hy
        rw [List.getElem?_map] at hy
        cases z : S[i]? with
        | none => rw [z] at hy; cases hy
        | some k => rw [z] at hy; cases hy; exact ⟨k, rfl, rfl⟩
      have hiS : i < S.length := (List.getElem?_eq_some_iff.mp hk).1
      have hke : k < es.length := hSl k (List.mem_of_getElem? hk)
      obtain ⟨a, ha, hta⟩ := N.at' hke
      have hok := N.ok _ (getD_mem hke)
      refine ⟨_, rfl, _, rfl, p, _, _, _, rfl, rfl, SqT.of (SG _ _ N.e1), rfl, _, rfl, qa, _, _, _, rfl, rfl, SqT.of (SG _ _ N.e2), atI_nat ha, a, _, rfl, .inr (SqT.of (SG _ _ hta)), fun l2 G2 s2 hl2 => ?_⟩
      refine ⟨b, l2, _, _, rfl, rfl, s2 _ _ gb, hl2, (by rw [nl_len, hbl]; show 2 * i + 2 ≤ 100000; omega), fun b3 G3 s3 hb3 => ?_⟩
      refine ⟨b3, B ++ [(es.getD k (0, 0)).1, (es.getD k (0, 0)).2], _, rfl, Same.trans (Same.trans SG s2) s3, by rw [hb3]; unfold nl; rw [List.map_append]; rfl, fun x => ?_, by rw [List.length_append, hbl]; show 2 * i + 2 = 2 * (i + 1); omega, fun x hx => ?_⟩
      · rw [List.take_add_one, hk, List.count_append, hc x]
        show _ = deg es (S.take i ++ [k]) x
        rw [deg_snoc, List.count_cons, List.count_cons, List.count_nil]
        simp only [beq_iff_eq]
        omega
      · rcases List.mem_append.mp hx with z | z
        · exact hbn x z
        · rcases List.mem_cons.mp z with rfl | z
          · exact hok.1
          · rw [List.mem_singleton.mp z]; exact hok.2.1
    · subst e
      rw [nl_len, List.take_length] at hc
      rw [nl_len] at hbl
      have gb' := gb
      rw [nl_ints] at gb'
      refine ⟨_, rfl, b, B.map fun x : Nat => (x : Int), rfl, SqL.of gb', by rw [List.length_map]; omega, fun sa G2 s2 hsa => ?_⟩
      generalize hks : firstMet (fun i => (B.map fun x : Nat => (x : Int)).getD i 0) (B.map fun x : Nat => (x : Int)).length = ks at hsa
      have hmem : ∀ k, k ∈ ks ↔ k ∈ B.map fun x : Nat => (x : Int) := fun k => by rw [← hks]; exact mem_firstMet _ k
      have hndk : ks.Nodup := by rw [← hks]; exact firstMet_nodup _ _
      have hkn : ∀ k ∈ ks, ∃ x : Nat, x ∈ B ∧ k = (x : Int) := fun k hk => by
        obtain ⟨x, hx, e⟩ := List.mem_map.mp ((hmem k).mp hk)
        exact ⟨x, hx, e.symm⟩
      have hnat : (ks.map Int.toNat).map (fun x : Nat => (x : Int)) = ks := by
        rw [List.map_map]
        conv => rhs; rw [← List.map_id ks]
        refine List.map_congr_left fun k hk => ?_
        obtain ⟨x, _, rfl⟩ := hkn k hk
        rfl
      have hnd2 : (ks.map Int.toNat).Nodup := by
        unfold List.Nodup
        rw [List.pairwise_map]
        refine List.Pairwise.imp_of_mem (fun {a b} ha hb hne z => ?_) hndk
        obtain ⟨x, _, rfl⟩ := hkn a ha
        obtain ⟨y, _, rfl⟩ := hkn b hb
        exact hne (by rw [show x = y from z])
      have hmem2 : ∀ x, x ∈ ks.map Int.toNat ↔ x ∈ B := fun x => by
        constructor
        · intro h
          obtain ⟨k, hk, rfl⟩ := List.mem_map.mp h
          obtain ⟨y, hy, rfl⟩ := hkn k hk
          exact hy
        · intro h
          exact List.mem_map.mpr ⟨(x : Int), (hmem _).mpr (List.mem_map.mpr ⟨x, h, rfl⟩), rfl⟩
      have hlk : (ks.map Int.toNat).length ≤ n := len_lt hnd2 fun x hx => hbn x ((hmem2 x).mp hx)
      rw [List.length_map] at hlk
      refine ⟨sa, ks, rfl, hsa, by omega, fun lr ns' G3 s3 hlr hp hs => ?_⟩
      rw [← hnat] at hp
      obtain ⟨hnl, hperm⟩ := ints_nat hp
      rw [hnl] at hlr
      have hrise : (ns'.map Int.toNat).Pairwise (· < ·) := rising_of (ints_rise hs) (hperm.nodup_iff.mpr hnd2)
      generalize ns'.map Int.toNat = L at *
      have hll : L.length ≤ 60 := by have := hperm.length_eq; rw [List.length_map] at this; omega
      refine ⟨lr, _, rfl, SqL.of hlr, (by rw [nl_len]; omega), fun i ys σ G' => Same G3 G' ∧ ys = nl ((L.take i).filter fun x => decide (deg es S x = 1)) ∧ ∃ v0, σ = [v0, some (.ref b)], ⟨Same.refl _, rfl, _, rfl⟩, fun i ys σ G' hi ⟨e1, e2, _⟩ => ?_, fun i y ys σ G' hy ⟨e1, e2, v0, e3⟩ => ?_, fun ys σ G' ⟨e1, e2, _⟩ l2 H3 s4 hl3 => ?_⟩
      · subst e2
        exact ⟨SqL.of (e1 _ _ hlr), by rw [nl_len]; exact Nat.le_trans (List.length_filter_le _ _) (List.length_take_le _ _)⟩
      · subst e2 e3
        obtain ⟨x, hx, rfl⟩ : ∃ k, L[i]? = some k ∧ y = V.int (k : Int) := by
          unfold nl at hy
          rw [List.getElem?_map] at hy
          cases z : L[i]? with
          | none => rw [z] at hy; cases hy
          | some k => rw [z] at hy; cases hy; exact ⟨k, rfl, rfl⟩
        have gb3 : G' b = some (.lst ((B.map fun x : Nat => (x : Int)).map V.int)) := e1 _ _ (s3 _ _ (s2 _ _ gb'))
        refine ⟨_, rfl, .inl ⟨rfl, _, SqL.of gb3⟩, _, rfl, b, _, _, rfl, rfl, SqL.of gb3, by rw [List.length_map]; omega, rfl, _, rfl, ?_⟩
        rw [count_ints, hc x]
        refine ite2 (fun hz => ?_) (fun hz => ?_)
        · have e : deg es S x = 1 := by have := V.int.inj (of_decide_eq_true hz); omega
          refine ⟨_, rfl, e1, ?_, _, rfl⟩
          rw [List.take_add_one, hx, List.filter_append]
          show nl _ ++ [V.int (x : Int)] = nl (_ ++ [x].filter _)
          rw [nl_app, List.filter_cons, if_pos (decide_eq_true e)]
          rfl
        · have e : deg es S x ≠ 1 := fun z => hz (decide_eq_true (by rw [z]; rfl))
          refine ⟨e1, ?_, _, rfl⟩
          rw [List.take_add_one, hx, List.filter_append]
          show nl _ = nl (_ ++ [x].filter _)
          rw [List.filter_cons, if_neg (fun z => e (of_decide_eq_true z))]
          show nl _ = nl (_ ++ [])
          rw [List.append_nil]
      · subst e2
        rw [nl_len, List.take_length] at hl3
        refine q H3 l2 _ (Same.trans (Same.trans (Same.trans (Same.trans SG s2) s3) e1) s4) hl3 (hrise.filter _) fun x => ?_
        rw [List.mem_filter]
        constructor
        · exact fun z => of_decide_eq_true z.2
        · intro e
          refine ⟨hperm.mem_iff.mpr ((hmem2 x).mpr ?_), decide_eq_true e⟩
          have := hc x
          exact List.count_pos_iff.mp (by omega)
end
end My

set_option Elab.async false
set_option linter.all false
set_option maxRecDepth 100000
set_option maxHeartbeats 4000000
namespace My
open PySem L2
theorem apart_clean {es : List (Nat × Nat)} {tl : List (Option Nat)} {st fs m : Nat} (hs : 1 ≤ st) (h : CleanTo es tl m) : CleanTo es (apart st fs tl) m := by
  have key : ∀ i t, (apart st fs tl)[i]? = some (some t) → ∃ a, tl[i]? = some (some a) ∧ t = fs + st * a := fun i t e => by
    unfold apart at e
    rw [List.getElem?_map] at e
    cases z : tl[i]? with
    | none => rw [z] at e; cases e
    | some o =>
      cases o with
      | none => rw [z] at e; cases e
      | some a => rw [z] at e; cases e; exact ⟨a, z, rfl⟩
  intro i j t hji him hi hj p hp
  obtain ⟨a, ha, e1⟩ := key i t hi
  obtain ⟨b, hb, e2⟩ := key j t hj
  have : st * a = st * b := by omega
  have e : a = b := Nat.eq_of_mul_eq_mul_left (by omega) this
  subst e
  exact h i j a hji him ha hb p hp
theorem deg_filter {es : List (Nat × Nat)} (x : Nat) : ∀ {S : List Nat}, (∀ k ∈ S, (es.getD k (0, 0)).1 ≠ (es.getD k (0, 0)).2) → deg es S x = (S.filter fun k => decide (x = (es.getD k (0, 0)).1 ∨ x = (es.getD k (0, 0)).2)).length
  | [], _ => rfl
  | k :: S, h => by
    have ih := deg_filter x (S := S) fun k hk => h k (.tail _ hk)
    have hne := h k (.head _)
    show (if _ then 1 else 0) + (if _ then 1 else 0) + deg es S x = _
    rw [List.filter_cons, ih]
    by_cases e1 : (es.getD k (0, 0)).1 = x
    · have e2 : ¬ (es.getD k (0, 0)).2 = x := fun z => hne (e1.trans z.symm)
      rw [if_pos e1, if_neg e2, if_pos (decide_eq_true (.inl e1.symm)), List.length_cons]
      omega
    · by_cases e2 : (es.getD k (0, 0)).2 = x
      · rw [if_neg e1, if_pos e2, if_pos (decide_eq_true (.inr e2.symm)), List.length_cons]
        omega
      · rw [if_neg e1, if_neg e2, if_neg (fun z => (of_decide_eq_true z).elim (fun z => e1 z.symm) fun z => e2 z.symm)]
        omega
theorem deg_pos {es : List (Nat × Nat)} {x k : Nat} : ∀ {S : List Nat}, k ∈ S → At (es.getD k (0, 0)) x → 1 ≤ deg es S x
  | j :: S, h, ha => by
    show 1 ≤ (if _ then 1 else 0) + (if _ then 1 else 0) + deg es S x
    rcases List.mem_cons.mp h with rfl | h
    · rcases ha with e | e
      · rw [if_pos e.symm]; omega
      · rw [if_pos e.symm]; omega
    · have := deg_pos h ha
      omega
theorem deg_at {es : List (Nat × Nat)} {x : Nat} : ∀ {S : List Nat}, 1 ≤ deg es S x → ∃ k ∈ S, At (es.getD k (0, 0)) x
  | [], h => absurd (show 1 ≤ 0 from h) (by decide)
  | j :: S, h => by
    have h' : 1 ≤ (if (es.getD j (0, 0)).1 = x then 1 else 0) + (if (es.getD j (0, 0)).2 = x then 1 else 0) + deg es S x := h
    by_cases e1 : (es.getD j (0, 0)).1 = x
    · exact ⟨j, .head _, .inl e1.symm⟩
    · by_cases e2 : (es.getD j (0, 0)).2 = x
      · exact ⟨j, .head _, .inr e2.symm⟩
      · rw [if_neg e1, if_neg e2] at h'
        obtain ⟨k, hk, z⟩ := deg_at (es := es) (x := x) (S := S) (by omega)
        exact ⟨k, .tail _ hk, z⟩
theorem deg_le {es : List (Nat × Nat)} {tl : List (Option Nat)} {u v : Nat} {S : List Nat} (nd : S.Nodup) (hk : ∀ k ∈ S, k < es.length ∧ InP tl u v k) (hne : ∀ k ∈ S, (es.getD k (0, 0)).1 ≠ (es.getD k (0, 0)).2) (hc : CleanTo es tl es.length) (x : Nat) : deg es S x ≤ 2 := by
  rw [deg_filter x hne]
  have hF : ∀ k ∈ S.filter fun k => decide (x = (es.getD k (0, 0)).1 ∨ x = (es.getD k (0, 0)).2), k ∈ S ∧ At (es.getD k (0, 0)) x := fun k hk => ⟨(List.mem_filter.mp hk).1, show x = (es.getD k (0, 0)).1 ∨ x = (es.getD k (0, 0)).2 from of_decide_eq_true (List.mem_filter.mp hk).2⟩
  have hnF : (S.filter fun k => decide (x = (es.getD k (0, 0)).1 ∨ x = (es.getD k (0, 0)).2)).Nodup := nd.filter _
  generalize (S.filter fun k => decide (x = (es.getD k (0, 0)).1 ∨ x = (es.getD k (0, 0)).2)) = F at *
  have h1 : (F.map fun k => if tl[k]? = some (some u) then 0 else 1).Nodup := by
    unfold List.Nodup
    rw [List.pairwise_map]
    refine List.Pairwise.imp_of_mem (fun {a b} ha hb hab z => ?_) hnF
    obtain ⟨ha1, ha2⟩ := hF a ha
    obtain ⟨hb1, hb2⟩ := hF b hb
    have same : ∃ t, tl[a]? = some (some t) ∧ tl[b]? = some (some t) := by
      by_cases ea : tl[a]? = some (some u)
      · by_cases eb : tl[b]? = some (some u)
        · exact ⟨u, ea, eb⟩
        · rw [if_pos ea, if_neg eb] at z; cases z
      · by_cases eb : tl[b]? = some (some u)
        · rw [if_neg ea, if_pos eb] at z; cases z
        · exact ⟨v, (hk a ha1).2.resolve_left ea, (hk b hb1).2.resolve_left eb⟩
    obtain ⟨t, ta, tb⟩ := same
    rcases Nat.lt_trichotomy a b with h | h | h
    · exact hc b a t h (hk b hb1).1 tb ta x hb2 ha2
    · exact hab h
    · exact hc a b t h (hk a ha1).1 ta tb x ha2 hb2
  have h2 := len_lt (n := 2) h1 fun y hy => by
    obtain ⟨k, _, rfl⟩ := List.mem_map.mp hy
    split <;> omega
  rw [List.length_map] at h2
  exact h2
theorem rp_first {es : List (Nat × Nat)} {tl : List (Option Nat)} {u v p y : Nat} (h : RP es tl u v p y) : y = p ∨ ∃ k, RT es tl u v p k ∧ At (es.getD k (0, 0)) p := by
  induction h with
  | start => exact .inl rfl
  | step hx hk hi ha hb ih =>
    rcases ih with e | e
    · subst e
      exact .inr ⟨_, ⟨hk, hi, _, .start, ha⟩, ha⟩
    · exact .inr e
theorem rp_tie {es : List (Nat × Nat)} {tl : List (Option Nat)} {u v p y : Nat} (h : RP es tl u v p y) (hs : ∃ k, RT es tl u v p k) : ∃ k, RT es tl u v p k ∧ At (es.getD k (0, 0)) y := by
  cases h with
  | start =>
    obtain ⟨k, hk, hi, x, hx, ha⟩ := hs
    rcases rp_first hx with e | e
    · subst e
      exact ⟨k, ⟨hk, hi, _, hx, ha⟩, ha⟩
    · exact e
  | step hx hk hi ha hb => exact ⟨_, ⟨hk, hi, _, hx, ha⟩, hb⟩
theorem ends_len {es : List (Nat × Nat)} {tl : List (Option Nat)} {u v p : Nat} {S pts E : List Nat} (hc : CleanTo es tl es.length) (hne : ∀ k, k < es.length → (es.getD k (0, 0)).1 ≠ (es.getD k (0, 0)).2) (hS : S.Pairwise (· < ·)) (hRT : ∀ k, k ∈ S ↔ RT es tl u v p k)
    (nd : pts.Nodup) (hp : ∀ k ∈ S, (es.getD k (0, 0)).1 ∈ pts ∧ (es.getD k (0, 0)).2 ∈ pts) (hl : pts.length ≤ S.length + 1) (hr : ∀ x ∈ pts, RP es tl u v p x) (hE : E.Pairwise (· < ·)) (hEx : ∀ x, x ∈ E ↔ deg es S x = 1) : E.length = 0 ∨ E.length = 2 := by
  have hSn : S.Nodup := hS.imp fun z => Nat.ne_of_lt z
  have hEn : E.Nodup := hE.imp fun z => Nat.ne_of_lt z
  cases hse : S with
  | nil =>
    refine .inl ?_
    cases E with
    | nil => rfl
    | cons x E =>
      have := (hEx x).mp (.head _)
      rw [hse] at this
      cases this
  | cons k0 S0 =>
    have hk0 : k0 ∈ S := by rw [hse]; exact .head _
    rw [← hse] at *
    have hd : ∀ x ∈ pts, deg es S x = 1 ∨ deg es S x = 2 := fun x hx => by
      obtain ⟨k, hk, ha⟩ := rp_tie (hr x hx) ⟨k0, (hRT k0).mp hk0⟩
      have h1 := deg_pos ((hRT k).mpr hk) ha
      have h2 := deg_le hSn (fun k hk => ⟨((hRT k).mp hk).1, ((hRT k).mp hk).2.1⟩) (fun k hk => hne k ((hRT k).mp hk).1) hc x
      omega
    have key := ends_two nd hp hd hl
    have hlen : E.length = (pts.filter fun x => decide (deg es S x = 1)).length := by
      refine List.Perm.length_eq ((List.perm_ext_iff_of_nodup hEn (nd.filter _)).mpr fun x => ?_)
      rw [hEx x, List.mem_filter, decide_eq_true_iff]
      refine ⟨fun z => ⟨?_, z⟩, fun z => z.2⟩
      obtain ⟨k, hk, ha⟩ := deg_at (es := es) (x := x) (S := S) (by omega)
      rcases ha with e | e
      · rw [e]; exact (hp k hk).1
      · rw [e]; exact (hp k hk).2
    rw [hlen]
    exact key
end My

set_option Elab.async false
set_option linter.all false
set_option maxRecDepth 100000
set_option maxHeartbeats 4000000
namespace My
open PySem L2
section
variable {P : Program} {w : World} {K : PySem.W.Frag} {mg : Str → Option Value} {base : Heap}
/-! ### law -/
abbrev sLaw : Stmt := top 16
abbrev nLaw : List Str := ["_law_script", "_law_net_here", "_law_many", "_law_step", "_law_first", "_law_tints_here", "_law_one", "_law_other", "_law_pair", "_law_begin", "_law_held", "_law_k", "_law_point", "_law_due", "_law_ends_here", "_law_told_ends"]
def spLaw (K : PySem.W.Frag) : Sp := fun vs H Q _ => ∃ (a : Addr) (ns : List Int), vs = [.ref a] ∧ SqL K H a (ns.map V.int) ∧ ns.length ≤ 63 ∧ ∀ H', Q (.bl true) H'
theorem scLaw : FnScope nLaw ["_law_script"] (defScope sLaw) := ⟨rfl, rfl, rfl, by decide +kernel, rfl, by decide +kernel, by decide +kernel⟩
theorem ok_law {f : Addr} {fd : FuncData} (F : Fun K "law" "law" sLaw f fd) (T : Bi mg) (FD : FnE P w K mg base "_law_draw" ["_law_script", "_law_k"] 3 (spDraw K)) (FNt : FnE P w K mg base "_law_net" ["_law_script", "_law_at"] 3 (spNet K))
    (FT : FnE P w K mg base "_law_tints" ["_law_script", "_law_at", "_law_net_here", "_law_many"] 3 (spTs K)) (FA : FnE P w K mg base "_law_apart" ["_law_tints_here", "_law_step", "_law_first"] 3 spAp) (FN : FnE P w K mg base "_law_numbers" ["_law_found", "_law_due"] 3 spNu)
    (FC : FnE P w K mg base "chain" ["net", "tints", "point", "one", "other"] 3 spCh) (FE : FnE P w K mg base "chain_ends" ["net", "tints", "point", "one", "other"] 3 spCe) (FG : FnE P w K mg base "_law_come_to" ["_law_net_here", "_law_tints_here", "_law_point", "_law_pair"] 3 spCt) (FEn : FnE P w K mg base "_law_ends" ["_law_net_here", "_law_met"] 3 spEn) : FnOk P w K mg base CX0 4 f fd ["_law_script"] (spLaw K) := by
  refine F.ok scLaw (fun vs H Q E h => ?_) (fun cdv A outer s H vs Q E hr h => ?_)
  · obtain ⟨a, ns, rfl, _⟩ := h
    rfl
  · obtain ⟨a, ns, rfl, hS, hl, q⟩ := h
    -- from held on
    obtain ⟨t9, h9, r9⟩ : ∃ t, PSs (cxOf CX0 P w K mg base nLaw "law" (defScope sLaw) f cdv A outer s H E).nox ((defBody sLaw).drop 9) t ∧ ∀ (H1 : Hp) (p : Addr) (n : Nat) (qa : Addr) (ts : List V) (es : List (Nat × Nat)) (r : Addr) (tl : List (Option Nat)) (pr : Addr) (u v bg : Nat) (w2 w3 w4 w6 w7 : Option V), NetZ H1 p n qa ts es → 2 ≤ n → H1 r = some (.tup (tv tl)) → tl.length = es.length → es.length < 64 → CleanTo es tl es.length → H1 pr = some (.lst (nl [u, v])) → bg < n →
        t { nx := fun _ H' => Q .non H', rt := Q } [some (.ref a), some (.ref p), w2, w3, w4, some (.ref r), w6, w7, some (.ref pr), some (.int (bg : Int)), none, none, none, none, none, none] H1 := by
      refine ⟨_, pss_cons (ps_set (i := 10) scLaw.nd rfl (Or.inl rfl) (pe_fc FC hr (pa_c (pv 1) (pa_c (pv 5) (pa_c (pv 9) (pa_c (pe_ix ix_list (pv 8) pe_int (fun _ _ => rfl)) (pa_c (pe_ix ix_list (pv 8) pe_int (fun _ _ => rfl)) pa_nil)))))))
        (pss_cons (ps_for PassesOwn.never rfl (pi_range1 rfl T.range (pa_c (pe_callB (call_min2 rfl) rfl T.min bMin (pa_c pe_int (pa_c (pe_ix ix_tup (pv 1) pe_int (fun _ _ => rfl)) pa_nil))) pa_nil)) (pg_name (i := 11) scLaw.nd rfl (Or.inl rfl))
          (pss_cons (ps_set (i := 12) scLaw.nd rfl (Or.inl rfl) (pe_op op_mod (pe_op op_add (pv 9) (pv 11)) (pe_ix ix_tup (pv 1) pe_int (fun _ _ => rfl))))
          (pss_cons (ps_set (i := 13) scLaw.nd rfl (Or.inl rfl) (pe_fc FG hr (pa_c (pv 1) (pa_c (pv 5) (pa_c (pv 12) (pa_c (pv 8) pa_nil))))))
          (pss_cons (ps_set (i := 14) scLaw.nd rfl (Or.inl rfl) (pe_fc FEn hr (pa_c (pv 1) (pa_c (pv 13) pa_nil))))
          (pss_cons (ps_if (pt_not (pt_val (pe_fc FN hr (pa_c (pe_fc FC hr (pa_c (pv 1) (pa_c (pv 5) (pa_c (pv 12) (pa_c (pe_ix ix_list (pv 8) pe_int (fun _ _ => rfl)) (pa_c (pe_ix ix_list (pv 8) pe_int (fun _ _ => rfl)) pa_nil)))))) (pa_c (pv 13) pa_nil))))) (pss_one (ps_ret pe_bl)) pss_nil)
          (pss_cons (ps_set (i := 15) scLaw.nd rfl (Or.inl rfl) (pe_fc FE hr (pa_c (pv 1) (pa_c (pv 5) (pa_c (pv 12) (pa_c (pe_ix ix_list (pv 8) pe_int (fun _ _ => rfl)) (pa_c (pe_ix ix_list (pv 8) pe_int (fun _ _ => rfl)) pa_nil)))))))
          (pss_cons (ps_if (PW.pt (pw_or (pt_not (pt_val (pe_fc FN hr (pa_c (pv 15) (pa_c (pv 14) pa_nil))))) (pw_or1 (pt_cmpR op_notIn_seq (pe_callB call_len_seq rfl T.len bLen (pa_c (pv 14) pa_nil)) (pe_lstS (pa_c pe_int (pa_c pe_int pa_nil))) rfl)))) (pss_one (ps_ret pe_bl)) pss_nil)
          (pss_one (ps_if (pt_not (pt_val (pe_fc FN hr (pa_c (pe_fc FC hr (pa_c (pv 1) (pa_c (pv 5) (pa_c (pv 12) (pa_c (pe_ix ix_list (pv 8) pe_int (fun _ _ => rfl)) (pa_c (pe_ix ix_list (pv 8) pe_int (fun _ _ => rfl)) pa_nil)))))) (pa_c (pv 13) pa_nil))))) (pss_one (ps_ret pe_bl)) pss_nil)))))))))
        (pss_cons (ps_if (pt_not (pt_val (pe_fc FN hr (pa_c (pv 10) (pa_c (pe_fc FG hr (pa_c (pv 1) (pa_c (pv 5) (pa_c (pv 9) (pa_c (pv 8) pa_nil))))) pa_nil))))) (pss_one (ps_ret pe_bl)) pss_nil)
        (pss_one (ps_ret (pe_cmpR (op_eqT hr) (pe_fc FC hr (pa_c (pv 1) (pa_c (pv 5) (pa_c (pv 9) (pa_c (pe_ix ix_list (pv 8) pe_int (fun _ _ => rfl)) (pa_c (pe_ix ix_list (pv 8) pe_int (fun _ _ => rfl)) pa_nil)))))) (pv 10) rfl)))))
        , fun H1 p n qa ts es r tl pr u v bg w2 w3 w4 w6 w7 N n2 hR htl h64 hc hpr hbg => ?_⟩
      have h60 := N.n60
      have hne : ∀ k, k < es.length → (es.getD k (0, 0)).1 ≠ (es.getD k (0, 0)).2 := fun k hk => (N.ok _ (getD_mem hk)).2.2
      have hlen : ∀ {S : List Nat}, S.Pairwise (· < ·) → (∀ k ∈ S, k < es.length) → S.length ≤ 64 := fun hS hk => by
        have := len_lt (hS.imp fun z => Nat.ne_of_lt z) hk
        omega
      refine ⟨_, rfl, _, rfl, _, rfl, _, rfl, pr, _, _, _, rfl, rfl, SqL.of hpr, rfl, _, rfl, pr, _, _, _, rfl, rfl, SqL.of hpr, rfl, p, r, n, qa, ts, es, tl, bg, u, v, rfl, N, hR, htl, h64, fun H2 t0 S0 s2 ht0 hS0 hRT0 => ?_⟩
      have N2 := N.same s2
      refine ⟨_, rfl, p, _, _, _, rfl, rfl, SqT.of N2.e1, rfl, _, _, rfl, _, rfl, (by split <;> omega), (by split <;> omega), for_range (lo := 0) (n := (if (n : Int) < 9 then (n : Int) else 9).toNat) (fun k σ G => (∃ v11 v12 v13 v14 v15, σ = [some (.ref a), some (.ref p), w2, w3, w4, some (.ref r), w6, w7, some (.ref pr), some (.int (bg : Int)), some (.ref t0), v11, v12, v13, v14, v15]) ∧ Same H2 G) ⟨⟨_, _, _, _, _, rfl⟩, Same.refl _⟩ (fun k σ G hk ⟨⟨v11, v12, v13, v14, v15, e⟩, sG⟩ => ?_) (fun σ G ⟨⟨v11, v12, v13, v14, v15, e⟩, sG⟩ => ?_)⟩
      · subst e
        obtain ⟨pt, hpt, hptn⟩ : ∃ pt : Nat, ((bg : Int) + (0 + (k : Int))) % (n : Int) = (pt : Int) ∧ pt < n := by
          have z1 := mod_lo (n := (bg : Int) + (0 + (k : Int))) (p := (n : Int)) (by omega)
          have z2 := mod_hi (n := (bg : Int) + (0 + (k : Int))) (p := (n : Int)) (by omega)
          exact ⟨(((bg : Int) + (0 + (k : Int))) % (n : Int)).toNat, by omega, by omega⟩
        have N4 := N2.same sG
        have s1G : Same H1 G := Same.trans s2 sG
        refine ⟨_, rfl, _, rfl, _, _, rfl, rfl, _, rfl, p, _, _, _, rfl, rfl, SqT.of N4.e1, rfl, _, _, rfl, rfl, (by show (0 : Int) < (n : Int); omega), ?_⟩
        dsimp only [gName]
        rw [hpt]
        refine ⟨_, rfl, _, rfl, _, rfl, _, rfl, p, r, n, qa, ts, es, tl, pt, pr, u, v, rfl, N4, s1G _ _ hR, htl, h64, hptn, s1G _ _ hpr, fun G1 l1 S pts u1 hl1 hS1 hRT1 hnd hpp hpl hprr => ?_⟩
        have a1 : Same H1 G1 := Same.trans s1G u1
        have hSk : ∀ k ∈ S, k < es.length := fun k hk => ((hRT1 k).mp hk).1
        have hS64 := hlen hS1 hSk
        refine ⟨_, rfl, _, rfl, p, l1, n, qa, ts, es, S, rfl, N4.same u1, hl1, hS64, hSk, fun G2 l2 E u2 hl2 hE hEx => ?_⟩
        have a2 : Same H1 G2 := Same.trans a1 u2
        refine ⟨_, rfl, _, rfl, _, rfl, _, rfl, pr, _, _, _, rfl, rfl, SqL.of (a2 _ _ hpr), rfl, _, rfl, pr, _, _, _, rfl, rfl, SqL.of (a2 _ _ hpr), rfl, p, r, n, qa, ts, es, tl, pt, u, v, rfl, N.same a2, a2 _ _ hR, htl, h64, fun G3 t3 S3 u3 ht3 hS3 hRT3 => ?_⟩
        obtain rfl : S3 = S := rising_ext hS3 hS1 fun x => (hRT3 x).trans (hRT1 x).symm
        have a3 : Same H1 G3 := Same.trans a2 u3
        refine ⟨_, rfl, t3, l1, S3, rfl, ht3, u3 _ _ (u2 _ _ hl1), by omega, _, rfl, iteF ?_⟩
        refine ⟨_, rfl, _, rfl, _, rfl, _, rfl, pr, _, _, _, rfl, rfl, SqL.of (a3 _ _ hpr), rfl, _, rfl, pr, _, _, _, rfl, rfl, SqL.of (a3 _ _ hpr), rfl, p, r, n, qa, ts, es, tl, pt, v, u, rfl, N.same a3, a3 _ _ hR, htl, h64, fun G4 t4 S4 E4 u4 ht4 hS4 hRT4 hE4 hEx4 => ?_⟩
        obtain rfl : S4 = S3 := rising_ext hS4 hS1 fun x => (hRT4 x).trans (RT.comm.trans (hRT1 x).symm)
        obtain rfl : E4 = E := rising_ext hE4 hE fun x => (hEx4 x).trans (hEx x).symm
        have a4 : Same H1 G4 := Same.trans a3 u4
        have hE2 := ends_len hc hne hS1 hRT1 hnd hpp hpl hprr hE hEx
        have gl2 : G4 l2 = some (.lst (nl E4)) := u4 _ _ (u3 _ _ hl2)
        refine ⟨_, rfl, _, rfl, t4, l2, E4, rfl, ht4, gl2, by omega, _, rfl, iteF ?_⟩
        refine ⟨_, rfl, l2, _, rfl, .inl (SqL.of gl2), rfl, fun lm G5 u5 hlm => ?_⟩
        have a5 : Same H1 G5 := Same.trans a4 u5
        refine ⟨lm, _, rfl, .inl (SqL.of hlm), rfl, rfl, _, rfl, ?_⟩
        rw [nl_len, show (if true = true then !inV (V.int ((E4.length : Nat) : Int)) [V.int 0, V.int 2] else inV (V.int ((E4.length : Nat) : Int)) [V.int 0, V.int 2]) = false by rcases hE2 with e | e <;> rw [e] <;> rfl]
        refine iteF ?_
        refine ⟨_, rfl, _, rfl, _, rfl, _, rfl, pr, _, _, _, rfl, rfl, SqL.of (a5 _ _ hpr), rfl, _, rfl, pr, _, _, _, rfl, rfl, SqL.of (a5 _ _ hpr), rfl, p, r, n, qa, ts, es, tl, pt, v, u, rfl, N.same a5, a5 _ _ hR, htl, h64, fun G6 t6 S6 u6 ht6 hS6 hRT6 => ?_⟩
        obtain rfl : S6 = S4 := rising_ext hS6 hS1 fun x => (hRT6 x).trans (RT.comm.trans (hRT1 x).symm)
        refine ⟨_, rfl, t6, l1, S6, rfl, ht6, u6 _ _ (u5 _ _ (u4 _ _ (u3 _ _ (u2 _ _ hl1)))), by omega, _, rfl, iteF ⟨⟨_, _, _, _, _, rfl⟩, ?_⟩⟩
        exact Same.trans (Same.trans (Same.trans (Same.trans (Same.trans (Same.trans sG u1) u2) u3) u4) u5) u6
      · subst e
        have a1 : Same H1 G := Same.trans s2 sG
        refine ⟨_, rfl, _, rfl, _, rfl, _, rfl, _, rfl, p, r, n, qa, ts, es, tl, bg, pr, u, v, rfl, N.same a1, a1 _ _ hR, htl, h64, hbg, a1 _ _ hpr, fun G1 l1 S pts u1 hl1 hS1 hRT1 hnd hpp hpl hprr => ?_⟩
        obtain rfl : S = S0 := rising_ext hS1 hS0 fun x => (hRT1 x).trans (hRT0 x).symm
        have hS64 := hlen hS1 fun k hk => ((hRT1 k).mp hk).1
        have a2 : Same H1 G1 := Same.trans a1 u1
        refine ⟨t0, l1, S, rfl, u1 _ _ (sG _ _ ht0), hl1, by omega, _, rfl, iteF ?_⟩
        refine ⟨_, rfl, _, rfl, _, rfl, _, rfl, pr, _, _, _, rfl, rfl, SqL.of (a2 _ _ hpr), rfl, _, rfl, pr, _, _, _, rfl, rfl, SqL.of (a2 _ _ hpr), rfl, p, r, n, qa, ts, es, tl, bg, u, v, rfl, N.same a2, a2 _ _ hR, htl, h64, fun G2 t2 S2 u2 ht2 hS2 hRT2 => ?_⟩
        obtain rfl : S2 = S := rising_ext hS2 hS1 fun x => (hRT2 x).trans (hRT1 x).symm
        have e1 := u2 _ _ (u1 _ _ (sG _ _ ht0))
        rw [nl_ints] at e1 ht2
        refine ⟨_, rfl, t2, t0, S2.map fun x : Nat => (x : Int), S2.map fun x : Nat => (x : Int), rfl, rfl, SqT.of ht2, SqT.of e1, ?_⟩
        rw [decide_eq_true rfl]
        exact q _
    refine ⟨_, pss_cons (ps_set (i := 1) scLaw.nd rfl (Or.inl rfl) (pe_fc FNt hr (pa_c (pv 0) (pa_c pe_int pa_nil))))
      (pss_cons (ps_set (i := 2) scLaw.nd rfl (Or.inl rfl) (pe_op op_add pe_int (pe_op op_mod (pe_fc FD hr (pa_c (pv 0) (pa_c pe_int pa_nil))) pe_int)))
      (pss_cons (ps_set (i := 3) scLaw.nd rfl (Or.inl rfl) (pe_op op_add pe_int (pe_op op_mod (pe_fc FD hr (pa_c (pv 0) (pa_c pe_int pa_nil))) pe_int)))
      (pss_cons (ps_set (i := 4) scLaw.nd rfl (Or.inl rfl) (pe_op op_mod (pe_fc FD hr (pa_c (pv 0) (pa_c pe_int pa_nil))) pe_int))
      (pss_cons (ps_set (i := 5) scLaw.nd rfl (Or.inl rfl) (pe_fc FA hr (pa_c (pe_fc FT hr (pa_c (pv 0) (pa_c pe_int (pa_c (pv 1) (pa_c (pv 2) pa_nil))))) (pa_c (pv 3) (pa_c (pv 4) pa_nil)))))
      (pss_cons (ps_set (i := 6) scLaw.nd rfl (Or.inl rfl) (pe_op op_mod (pe_fc FD hr (pa_c (pv 0) (pa_c pe_int pa_nil))) (pv 2)))
      (pss_cons (ps_set (i := 7) scLaw.nd rfl (Or.inl rfl) (pe_op op_mod (pe_op op_add (pe_op op_add (pv 6) pe_int) (pe_op op_mod (pe_fc FD hr (pa_c (pv 0) (pa_c pe_int pa_nil))) (pv 2))) (pe_op op_add (pv 2) pe_int)))
      (pss_cons (ps_set (i := 8) scLaw.nd rfl (Or.inl rfl) (pe_lstS (pa_c (pe_op op_add (pv 4) (pe_op op_mul (pv 3) (pv 6))) (pa_c (pe_op op_add (pv 4) (pe_op op_mul (pv 3) (pv 7))) pa_nil))))
      (pss_cons (ps_set (i := 9) scLaw.nd rfl (Or.inl rfl) (pe_op op_mod (pe_fc FD hr (pa_c (pv 0) (pa_c pe_int pa_nil))) (pe_ix ix_tup (pv 1) pe_int (fun _ _ => rfl)))) h9)))))))), ?_⟩
    refine ⟨_, rfl, a, ns, rfl, hS, hl, fun H2 p n qa ts es s2 N n2 h40 => ?_⟩
    have sS2 : SqL K H2 a (ns.map V.int) := s2.seq hS
    have d1 := mod_lo (n := draw ns 0) (p := 4) (by decide)
    have d2 := mod_hi (n := draw ns 0) (p := 4) (by decide)
    have e1 := mod_lo (n := draw ns 1) (p := 150) (by decide)
    have e2 := mod_hi (n := draw ns 1) (p := 150) (by decide)
    have e3 := mod_lo (n := draw ns 2) (p := 249) (by decide)
    have e4 := mod_hi (n := draw ns 2) (p := 249) (by decide)
    obtain ⟨M, hM, hM1, hM2⟩ : ∃ M : Nat, 2 + draw ns 0 % 4 = (M : Int) ∧ 2 ≤ M ∧ M ≤ 5 := ⟨(2 + draw ns 0 % 4).toNat, by omega, by omega, by omega⟩
    obtain ⟨st, hst, hst1, hst2⟩ : ∃ st : Nat, 1 + draw ns 1 % 150 = (st : Int) ∧ 1 ≤ st ∧ st ≤ 150 := ⟨(1 + draw ns 1 % 150).toNat, by omega, by omega, by omega⟩
    obtain ⟨fs, hfs, hfs2⟩ : ∃ fs : Nat, draw ns 2 % 249 = (fs : Int) ∧ fs ≤ 248 := ⟨(draw ns 2 % 249).toNat, by omega, by omega⟩
    refine ⟨_, rfl, a, ns, 0, rfl, sS2, hl, by decide, by decide, _, _, rfl, rfl, (by show (0 : Int) < 4; decide), _, _, rfl, rfl, ?_⟩
    dsimp only [gName]
    rw [hM]
    refine ⟨_, rfl, a, ns, 1, rfl, sS2, hl, by decide, by decide, _, _, rfl, rfl, (by show (0 : Int) < 150; decide), _, _, rfl, rfl, ?_⟩
    dsimp only [gName]
    rw [hst]
    refine ⟨_, rfl, a, ns, 2, rfl, sS2, hl, by decide, by decide, _, _, rfl, rfl, (by show (0 : Int) < 249; decide), ?_⟩
    dsimp only [gName]
    rw [hfs]
    have h200 := N.l200
    refine ⟨_, rfl, _, rfl, _, rfl, a, ns, p, n, qa, ts, es, M, rfl, sS2, hl, N, by omega, by omega, fun H3 l0 tl0 s3 hl0 _ htl0 hb0 hcl => ?_⟩
    refine ⟨_, rfl, _, rfl, l0, tl0, st, fs, rfl, hl0, by omega, by omega, fun H4 r s4 hR => ?_⟩
    have N4 := (N.same s3).same s4
    have sS4 : SqL K H4 a (ns.map V.int) := s4.seq (s3.seq sS2)
    have htl : (apart st fs tl0).length = es.length := by unfold apart; rw [List.length_map]; exact htl0
    have hcl2 := apart_clean (fs := fs) hst1 hcl
    have hMp : (0 : Int) < (M : Int) := by omega
    obtain ⟨on, hon⟩ : ∃ on : Nat, draw ns 3 % (M : Int) = (on : Int) := ⟨(draw ns 3 % (M : Int)).toNat, by have := mod_lo (n := draw ns 3) hMp; omega⟩
    refine ⟨_, rfl, a, ns, 3, rfl, sS4, hl, by decide, by decide, _, rfl, _, _, rfl, rfl, hMp, ?_⟩
    dsimp only [gName]
    rw [hon]
    obtain ⟨ot, hot⟩ : ∃ ot : Nat, ((on : Int) + 1 + draw ns 4 % (M : Int)) % ((M : Int) + 1) = (ot : Int) := ⟨(((on : Int) + 1 + draw ns 4 % (M : Int)) % ((M : Int) + 1)).toNat, by have := mod_lo (n := (on : Int) + 1 + draw ns 4 % (M : Int)) (p := (M : Int) + 1) (by omega); omega⟩
    refine ⟨_, rfl, _, _, rfl, rfl, _, rfl, a, ns, 4, rfl, sS4, hl, by decide, by decide, _, rfl, _, _, rfl, rfl, hMp, _, _, rfl, rfl, _, rfl, _, _, rfl, rfl, _, _, rfl, rfl, (by show (0 : Int) < (M : Int) + 1; omega), ?_⟩
    dsimp only [gName]
    rw [hot]
    refine ⟨_, rfl, _, rfl, _, rfl, _, _, rfl, rfl, .inl ⟨by omega, by omega⟩, _, _, rfl, rfl, _, rfl, _, rfl, _, rfl, _, _, rfl, rfl, .inl ⟨by omega, by omega⟩, _, _, rfl, rfl, rfl, fun pr H5 s5 hpr => ?_⟩
    have N5 := N4.same s5
    have hnp : (0 : Int) < (n : Int) := by omega
    obtain ⟨bg, hbg, hbg2⟩ : ∃ bg : Nat, draw ns 5 % (n : Int) = (bg : Int) ∧ bg < n := ⟨(draw ns 5 % (n : Int)).toNat, by have := mod_lo (n := draw ns 5) hnp; omega, by have := mod_lo (n := draw ns 5) hnp; have := mod_hi (n := draw ns 5) hnp; omega⟩
    refine ⟨_, rfl, a, ns, 5, rfl, s5.seq sS4, hl, by decide, by decide, _, rfl, p, _, _, _, rfl, rfl, SqT.of N5.e1, rfl, _, _, rfl, rfl, hnp, ?_⟩
    dsimp only [gName]
    rw [hbg]
    refine r9 H5 p n qa ts es r (apart st fs tl0) pr (fs + st * on) (fs + st * ot) bg _ _ _ _ _ N5 n2 (s5 _ _ hR) htl (by omega) hcl2 ?_ hbg2
    rw [hpr]
    unfold nl
    simp only [List.map_cons, List.map_nil, Int.natCast_add, Int.natCast_mul]
end
end My

set_option Elab.async false
set_option linter.all false
set_option maxRecDepth 100000
set_option maxHeartbeats 4000000
namespace My
open PySem L2
theorem all_mk {l : PySem.W.OpenLaw} {w : World} {K : PySem.W.Frag} {h : Heap} {mg : Str → Option Value} {fa f1 f2 f3 f4 f5 f6 f7 f8 f9 f10 f11 f12 f13 f14 : Addr} (X : K.In h) (G : h.Ns mainGlobals mg) (hfa : mg "law" = some (.ref fa))
    {od1 an1 od2 an2 od3 an3 od4 an4 od5 an5 od6 an6 od7 an7 od8 an8 od9 an9 od10 an10 od11 an11 od12 an12 od13 an13 od14 an14 : Option Addr} {sl1 sl2 sl3 sl4 sl5 sl6 sl7 sl8 sl9 sl10 sl11 sl12 sl13 sl14 : Array (Option Value)} {oc1 kV1 dc1 pm1 cd1 ct1 oc2 kV2 dc2 pm2 cd2 ct2 oc3 kV3 dc3 pm3 cd3 ct3 oc4 kV4 dc4 pm4 cd4 ct4 oc5 kV5 dc5 pm5 cd5 ct5 oc6 kV6 dc6 pm6 cd6 ct6 oc7 kV7 dc7 pm7 cd7 ct7 oc8 kV8 dc8 pm8 cd8 ct8 oc9 kV9 dc9 pm9 cd9 ct9 oc10 kV10 dc10 pm10 cd10 ct10 oc11 kV11 dc11 pm11 cd11 ct11 oc12 kV12 dc12 pm12 cd12 ct12 oc13 kV13 dc13 pm13 cd13 ct13 oc14 kV14 dc14 pm14 cd14 ct14 : Value}
    (a1 : PySem.W.nsIn K mainGlobals "across" = some (some (.ref f1))) (l1 : K.lookup f1 = some ⟨oc1, od1, .func (PySem.W.fnOf "across" "across" (defArgs sAc) (defBody sAc) (defScope sAc) .none kV1 dc1 pm1 an1 cd1 ct1), sl1⟩) (c1 : PySem.W.codeIn K cd1 "across" = true) (k1 : PySem.W.keepIn K (.ref f1) = true)
    (a2 : PySem.W.nsIn K mainGlobals "two_tinted" = some (some (.ref f2))) (l2 : K.lookup f2 = some ⟨oc2, od2, .func (PySem.W.fnOf "two_tinted" "two_tinted" (defArgs sTt) (defBody sTt) (defScope sTt) .none kV2 dc2 pm2 an2 cd2 ct2), sl2⟩) (c2 : PySem.W.codeIn K cd2 "two_tinted" = true) (k2 : PySem.W.keepIn K (.ref f2) = true)
    (a3 : PySem.W.nsIn K mainGlobals "chain" = some (some (.ref f3))) (l3 : K.lookup f3 = some ⟨oc3, od3, .func (PySem.W.fnOf "chain" "chain" (defArgs sCh) (defBody sCh) (defScope sCh) .none kV3 dc3 pm3 an3 cd3 ct3), sl3⟩) (c3 : PySem.W.codeIn K cd3 "chain" = true) (k3 : PySem.W.keepIn K (.ref f3) = true)
    (a4 : PySem.W.nsIn K mainGlobals "chain_ends" = some (some (.ref f4))) (l4 : K.lookup f4 = some ⟨oc4, od4, .func (PySem.W.fnOf "chain_ends" "chain_ends" (defArgs sCe) (defBody sCe) (defScope sCe) .none kV4 dc4 pm4 an4 cd4 ct4), sl4⟩) (c4 : PySem.W.codeIn K cd4 "chain_ends" = true) (k4 : PySem.W.keepIn K (.ref f4) = true)
    (a5 : PySem.W.nsIn K mainGlobals "_law_draw" = some (some (.ref f5))) (l5 : K.lookup f5 = some ⟨oc5, od5, .func (PySem.W.fnOf "_law_draw" "_law_draw" (defArgs sDraw) (defBody sDraw) (defScope sDraw) .none kV5 dc5 pm5 an5 cd5 ct5), sl5⟩) (c5 : PySem.W.codeIn K cd5 "_law_draw" = true) (k5 : PySem.W.keepIn K (.ref f5) = true)
    (a6 : PySem.W.nsIn K mainGlobals "_law_tie" = some (some (.ref f6))) (l6 : K.lookup f6 = some ⟨oc6, od6, .func (PySem.W.fnOf "_law_tie" "_law_tie" (defArgs sTie) (defBody sTie) (defScope sTie) .none kV6 dc6 pm6 an6 cd6 ct6), sl6⟩) (c6 : PySem.W.codeIn K cd6 "_law_tie" = true) (k6 : PySem.W.keepIn K (.ref f6) = true)
    (a7 : PySem.W.nsIn K mainGlobals "_law_net" = some (some (.ref f7))) (l7 : K.lookup f7 = some ⟨oc7, od7, .func (PySem.W.fnOf "_law_net" "_law_net" (defArgs sNet) (defBody sNet) (defScope sNet) .none kV7 dc7 pm7 an7 cd7 ct7), sl7⟩) (c7 : PySem.W.codeIn K cd7 "_law_net" = true) (k7 : PySem.W.keepIn K (.ref f7) = true)
    (a8 : PySem.W.nsIn K mainGlobals "_law_tints" = some (some (.ref f8))) (l8 : K.lookup f8 = some ⟨oc8, od8, .func (PySem.W.fnOf "_law_tints" "_law_tints" (defArgs sTs) (defBody sTs) (defScope sTs) .none kV8 dc8 pm8 an8 cd8 ct8), sl8⟩) (c8 : PySem.W.codeIn K cd8 "_law_tints" = true) (k8 : PySem.W.keepIn K (.ref f8) = true)
    (a9 : PySem.W.nsIn K mainGlobals "_law_apart" = some (some (.ref f9))) (l9 : K.lookup f9 = some ⟨oc9, od9, .func (PySem.W.fnOf "_law_apart" "_law_apart" (defArgs sAp) (defBody sAp) (defScope sAp) .none kV9 dc9 pm9 an9 cd9 ct9), sl9⟩) (c9 : PySem.W.codeIn K cd9 "_law_apart" = true) (k9 : PySem.W.keepIn K (.ref f9) = true)
    (a10 : PySem.W.nsIn K mainGlobals "_law_whole" = some (some (.ref f10))) (l10 : K.lookup f10 = some ⟨oc10, od10, .func (PySem.W.fnOf "_law_whole" "_law_whole" (defArgs sWh) (defBody sWh) (defScope sWh) .none kV10 dc10 pm10 an10 cd10 ct10), sl10⟩) (c10 : PySem.W.codeIn K cd10 "_law_whole" = true) (k10 : PySem.W.keepIn K (.ref f10) = true)
    (a11 : PySem.W.nsIn K mainGlobals "_law_numbers" = some (some (.ref f11))) (l11 : K.lookup f11 = some ⟨oc11, od11, .func (PySem.W.fnOf "_law_numbers" "_law_numbers" (defArgs sNu) (defBody sNu) (defScope sNu) .none kV11 dc11 pm11 an11 cd11 ct11), sl11⟩) (c11 : PySem.W.codeIn K cd11 "_law_numbers" = true) (k11 : PySem.W.keepIn K (.ref f11) = true)
    (a12 : PySem.W.nsIn K mainGlobals "_law_come_to" = some (some (.ref f12))) (l12 : K.lookup f12 = some ⟨oc12, od12, .func (PySem.W.fnOf "_law_come_to" "_law_come_to" (defArgs sCt) (defBody sCt) (defScope sCt) .none kV12 dc12 pm12 an12 cd12 ct12), sl12⟩) (c12 : PySem.W.codeIn K cd12 "_law_come_to" = true) (k12 : PySem.W.keepIn K (.ref f12) = true)
    (a13 : PySem.W.nsIn K mainGlobals "_law_ends" = some (some (.ref f13))) (l13 : K.lookup f13 = some ⟨oc13, od13, .func (PySem.W.fnOf "_law_ends" "_law_ends" (defArgs sEn) (defBody sEn) (defScope sEn) .none kV13 dc13 pm13 an13 cd13 ct13), sl13⟩) (c13 : PySem.W.codeIn K cd13 "_law_ends" = true) (k13 : PySem.W.keepIn K (.ref f13) = true)
    (a14 : PySem.W.nsIn K mainGlobals "law" = some (some (.ref f14))) (l14 : K.lookup f14 = some ⟨oc14, od14, .func (PySem.W.fnOf "law" "law" (defArgs sLaw) (defBody sLaw) (defScope sLaw) .none kV14 dc14 pm14 an14 cd14 ct14), sl14⟩) (c14 : PySem.W.codeIn K cd14 "law" = true) (k14 : PySem.W.keepIn K (.ref f14) = true)
    (z1 : PySem.W.nsIn K mainGlobals "len" = some none)
    (z2 : PySem.W.nsIn K mainGlobals "isinstance" = some none)
    (z3 : PySem.W.nsIn K mainGlobals "int" = some none)
    (z4 : PySem.W.nsIn K mainGlobals "bool" = some none)
    (z5 : PySem.W.nsIn K mainGlobals "tuple" = some none)
    (z6 : PySem.W.nsIn K mainGlobals "list" = some none)
    (z7 : PySem.W.nsIn K mainGlobals "range" = some none)
    (z8 : PySem.W.nsIn K mainGlobals "max" = some none)
    (z9 : PySem.W.nsIn K mainGlobals "min" = some none)
    (z10 : PySem.W.nsIn K mainGlobals "zip" = some none)
    (z11 : PySem.W.nsIn K mainGlobals "dict" = some none)
    (z12 : PySem.W.nsIn K mainGlobals "enumerate" = some none)
    (z13 : PySem.W.nsIn K mainGlobals "sorted" = some none)
    (z14 : PySem.W.nsIn K mainGlobals "set" = some none)
    : ∃ fd : FuncData, (∀ (s : Shared) (v : Value), BindsTo s fd ⟨[v], []⟩ [("_law_script", v)]) ∧ ∀ base : Heap, K.In base → base.Ns mainGlobals mg → FnOk l.prog w K mg base CX0 4 fa fd ["_law_script"] (spLaw K) := by
  have e := hfa.symm.trans (PySem.W.mg_of X G a14)
  cases e
  have F1 := fun_mk (st := sAc) l1 c1 k1
  have b1 := F1.binds (ps := ["net", "tie", "point"]) fun _ _ _ _ _ _ us hl => match us, hl with | [_, _, _], _ => rfl
  have g1 := PySem.W.mg_of X G a1
  have F2 := fun_mk (st := sTt) l2 c2 k2
  have b2 := F2.binds (ps := ["net", "tints", "one", "other"]) fun _ _ _ _ _ _ us hl => match us, hl with | [_, _, _, _], _ => rfl
  have g2 := PySem.W.mg_of X G a2
  have F3 := fun_mk (st := sCh) l3 c3 k3
  have b3 := F3.binds (ps := ["net", "tints", "point", "one", "other"]) fun _ _ _ _ _ _ us hl => match us, hl with | [_, _, _, _, _], _ => rfl
  have g3 := PySem.W.mg_of X G a3
  have F4 := fun_mk (st := sCe) l4 c4 k4
  have b4 := F4.binds (ps := ["net", "tints", "point", "one", "other"]) fun _ _ _ _ _ _ us hl => match us, hl with | [_, _, _, _, _], _ => rfl
  have g4 := PySem.W.mg_of X G a4
  have F5 := fun_mk (st := sDraw) l5 c5 k5
  have b5 := F5.binds (ps := ["_law_script", "_law_k"]) fun _ _ _ _ _ _ us hl => match us, hl with | [_, _], _ => rfl
  have g5 := PySem.W.mg_of X G a5
  have F6 := fun_mk (st := sTie) l6 c6 k6
  have b6 := F6.binds (ps := ["_law_number", "_law_k", "_law_points", "_law_kind"]) fun _ _ _ _ _ _ us hl => match us, hl with | [_, _, _, _], _ => rfl
  have g6 := PySem.W.mg_of X G a6
  have F7 := fun_mk (st := sNet) l7 c7 k7
  have b7 := F7.binds (ps := ["_law_script", "_law_at"]) fun _ _ _ _ _ _ us hl => match us, hl with | [_, _], _ => rfl
  have g7 := PySem.W.mg_of X G a7
  have F8 := fun_mk (st := sTs) l8 c8 k8
  have b8 := F8.binds (ps := ["_law_script", "_law_at", "_law_net_here", "_law_many"]) fun _ _ _ _ _ _ us hl => match us, hl with | [_, _, _, _], _ => rfl
  have g8 := PySem.W.mg_of X G a8
  have F9 := fun_mk (st := sAp) l9 c9 k9
  have b9 := F9.binds (ps := ["_law_tints_here", "_law_step", "_law_first"]) fun _ _ _ _ _ _ us hl => match us, hl with | [_, _, _], _ => rfl
  have g9 := PySem.W.mg_of X G a9
  have F10 := fun_mk (st := sWh) l10 c10 k10
  have b10 := F10.binds (ps := ["_law_found"]) fun _ _ _ _ _ _ us hl => match us, hl with | [_], _ => rfl
  have g10 := PySem.W.mg_of X G a10
  have F11 := fun_mk (st := sNu) l11 c11 k11
  have b11 := F11.binds (ps := ["_law_found", "_law_due"]) fun _ _ _ _ _ _ us hl => match us, hl with | [_, _], _ => rfl
  have g11 := PySem.W.mg_of X G a11
  have F12 := fun_mk (st := sCt) l12 c12 k12
  have b12 := F12.binds (ps := ["_law_net_here", "_law_tints_here", "_law_point", "_law_pair"]) fun _ _ _ _ _ _ us hl => match us, hl with | [_, _, _, _], _ => rfl
  have g12 := PySem.W.mg_of X G a12
  have F13 := fun_mk (st := sEn) l13 c13 k13
  have b13 := F13.binds (ps := ["_law_net_here", "_law_met"]) fun _ _ _ _ _ _ us hl => match us, hl with | [_, _], _ => rfl
  have g13 := PySem.W.mg_of X G a13
  have F14 := fun_mk (st := sLaw) l14 c14 k14
  have T : Bi mg := ⟨PySem.W.mg_none_of X G z1, PySem.W.mg_none_of X G z2, PySem.W.mg_none_of X G z3, PySem.W.mg_none_of X G z4, PySem.W.mg_none_of X G z5, PySem.W.mg_none_of X G z6, PySem.W.mg_none_of X G z7, PySem.W.mg_none_of X G z8, PySem.W.mg_none_of X G z9, PySem.W.mg_none_of X G z10, PySem.W.mg_none_of X G z11⟩
  refine ⟨PySem.W.fnOf "law" "law" (defArgs sLaw) (defBody sLaw) (defScope sLaw) .none kV14 dc14 pm14 an14 cd14 ct14, fun s v => .of_eq rfl, fun base _ _ => ?_⟩
  have E1 : FnE l.prog w K mg base "across" ["net", "tie", "point"] 1 spAc := ⟨⟨f1, _, ok_ac F1, g1, k1, b1⟩⟩
  have E2 : FnE l.prog w K mg base "two_tinted" ["net", "tints", "one", "other"] 1 spTt := ⟨⟨f2, _, ok_tt F2 T (PySem.W.mg_none_of X G z12), g2, k2, b2⟩⟩
  have E3 : FnE l.prog w K mg base "chain" ["net", "tints", "point", "one", "other"] 2 spCh := ⟨⟨f3, _, ok_ch F3 T (PySem.W.mg_none_of X G z13) E2 E1, g3, k3, b3⟩⟩
  have E4 : FnE l.prog w K mg base "chain_ends" ["net", "tints", "point", "one", "other"] 3 spCe := ⟨⟨f4, _, ok_ce F4 T (PySem.W.mg_none_of X G z13) E3, g4, k4, b4⟩⟩
  have E5 : FnE l.prog w K mg base "_law_draw" ["_law_script", "_law_k"] 1 (spDraw K) := ⟨⟨f5, _, ok_draw F5 T, g5, k5, b5⟩⟩
  have E6 : FnE l.prog w K mg base "_law_tie" ["_law_number", "_law_k", "_law_points", "_law_kind"] 1 spTie := ⟨⟨f6, _, ok_tie F6, g6, k6, b6⟩⟩
  have E7 : FnE l.prog w K mg base "_law_net" ["_law_script", "_law_at"] 2 (spNet K) := ⟨⟨f7, _, ok_net F7 T E5 E6, g7, k7, b7⟩⟩
  have E8 : FnE l.prog w K mg base "_law_tints" ["_law_script", "_law_at", "_law_net_here", "_law_many"] 2 (spTs K) := ⟨⟨f8, _, ok_ts F8 T E5, g8, k8, b8⟩⟩
  have E9 : FnE l.prog w K mg base "_law_apart" ["_law_tints_here", "_law_step", "_law_first"] 1 spAp := ⟨⟨f9, _, ok_ap F9 T, g9, k9, b9⟩⟩
  have E10 : FnE l.prog w K mg base "_law_whole" ["_law_found"] 1 spWh := ⟨⟨f10, _, ok_wh F10 T, g10, k10, b10⟩⟩
  have E11 : FnE l.prog w K mg base "_law_numbers" ["_law_found", "_law_due"] 2 spNu := ⟨⟨f11, _, ok_nu F11 T E10, g11, k11, b11⟩⟩
  have E12 : FnE l.prog w K mg base "_law_come_to" ["_law_net_here", "_law_tints_here", "_law_point", "_law_pair"] 1 spCt := ⟨⟨f12, _, ok_ct F12 T (PySem.W.mg_none_of X G z13), g12, k12, b12⟩⟩
  have E13 : FnE l.prog w K mg base "_law_ends" ["_law_net_here", "_law_met"] 1 spEn := ⟨⟨f13, _, ok_en F13 T (PySem.W.mg_none_of X G z13) (PySem.W.mg_none_of X G z14), g13, k13, b13⟩⟩
  exact ok_law F14 T (E5.mono (by decide)) (E7.mono (by decide)) (E8.mono (by decide)) (E9.mono (by decide)) (E11.mono (by decide)) (E3.mono (by decide)) E4 (E12.mono (by decide)) (E13.mono (by decide))
theorem walk {l : PySem.W.OpenLaw} {q : Program} {loose : List Str} {XP : (Str → Option Value) → Heap → Prop} {YP : World → Heap → Prop} {d : DefRec} {K : Params → PySem.W.Frag} (hn : l.most = some 63) (hdf : d.params.defaults = [])
    (hY : ∀ (w : World) (h : Heap), YP w h → (K w.params).In h)
    (F : ∀ (w : World) (mg : Str → Option Value) (fa : Addr) (h : Heap), (K w.params).In h → h.Ns mainGlobals mg → mg d.name = some (.ref fa) →
      ∃ fd : FuncData, (∀ (s : Shared) (u : Value), BindsTo s fd ⟨[u], []⟩ [("_law_script", u)]) ∧ ∀ base : Heap, (K w.params).In base → base.Ns mainGlobals mg → FnOk l.prog w (K w.params) mg base CX0 4 fa fd ["_law_script"] (spLaw (K w.params))) :
    PySem.W.WalkO q loose XP YP l.row.toRowW d [] (fun f vs => PySem.call f vs) :=
  L2.walk_of (n := 63) (k := 4) (x := "_law_script") (CX := fun _ => CX0) (sp := fun w => spLaw (K w.params)) hn (by decide) hdf ⟨rfl, by decide, by decide⟩ hY F (fun _ _ a ns hl _ hS => ⟨a, ns, rfl, hS, hl, fun _ => rfl⟩) fun _ _ _ _ _ z => z
end My

set_option Elab.async false
open PySem PySem.W PyProof.Rows
set_option maxRecDepth 100000 in
set_option maxHeartbeats 0 in
theorem PySem.Challenge.cw_tintties_k12_chains_holds : PySem.Challenge.rw_tintties_k12_chains.Holds := by
  w_on; o_law; k_head; (case hw => w_witness2)
  k_fill
  refine My.walk (l := PySem.Challenge.rw_tintties_k12_chains) rfl rfl (fun w h Y => PySem.W.kIn_of Y) ?F
  case F =>
    intro w mg fa h KX G hmg
    refine' My.all_mk KX G hmg ?a1 ?l1 ?c1 ?k1 ?a2 ?l2 ?c2 ?k2 ?a3 ?l3 ?c3 ?k3 ?a4 ?l4 ?c4 ?k4 ?a5 ?l5 ?c5 ?k5 ?a6 ?l6 ?c6 ?k6 ?a7 ?l7 ?c7 ?k7 ?a8 ?l8 ?c8 ?k8 ?a9 ?l9 ?c9 ?k9 ?a10 ?l10 ?c10 ?k10 ?a11 ?l11 ?c11 ?k11 ?a12 ?l12 ?c12 ?k12 ?a13 ?l13 ?c13 ?k13 ?a14 ?l14 ?c14 ?k14 ?z1 ?z2 ?z3 ?z4 ?z5 ?z6 ?z7 ?z8 ?z9 ?z10 ?z11 ?z12 ?z13 ?z14
    (case a1 => k_is); (case l1 => k_is); (case c1 => k_is); (case k1 => k_is)
    (case a2 => k_is); (case l2 => k_is); (case c2 => k_is); (case k2 => k_is)
    (case a3 => k_is); (case l3 => k_is); (case c3 => k_is); (case k3 => k_is)
    (case a4 => k_is); (case l4 => k_is); (case c4 => k_is); (case k4 => k_is)
    (case a5 => k_is); (case l5 => k_is); (case c5 => k_is); (case k5 => k_is)
    (case a6 => k_is); (case l6 => k_is); (case c6 => k_is); (case k6 => k_is)
    (case a7 => k_is); (case l7 => k_is); (case c7 => k_is); (case k7 => k_is)
    (case a8 => k_is); (case l8 => k_is); (case c8 => k_is); (case k8 => k_is)
    (case a9 => k_is); (case l9 => k_is); (case c9 => k_is); (case k9 => k_is)
    (case a10 => k_is); (case l10 => k_is); (case c10 => k_is); (case k10 => k_is)
    (case a11 => k_is); (case l11 => k_is); (case c11 => k_is); (case k11 => k_is)
    (case a12 => k_is); (case l12 => k_is); (case c12 => k_is); (case k12 => k_is)
    (case a13 => k_is); (case l13 => k_is); (case c13 => k_is); (case k13 => k_is)
    (case a14 => k_is); (case l14 => k_is); (case c14 => k_is); (case k14 => k_is)
    (case z1 => k_is); (case z2 => k_is); (case z3 => k_is); (case z4 => k_is)
    (case z5 => k_is); (case z6 => k_is); (case z7 => k_is); (case z8 => k_is)
    (case z9 => k_is); (case z10 => k_is); (case z11 => k_is); (case z12 => k_is)
    (case z13 => k_is); (case z14 => k_is)
#print axioms PySem.Challenge.cw_tintties_k12_chains_holds
