import PyProof.Rows.All
import Wide.All
import OpenK.AllK
import Wide.FinOn
import Lean
import PyProof.EqAt
import PyProof.EqKinds
import PyProof.TupleCall
import PySem.SetTable
import PySem.SetOps
import PyProof.Rows.SetFrom
import PyProof.NeKinds
import PyProof.Rows.StrInSeq3
import KE.KDictOf
import PyProof.AttrMissHeap
import KE.KDictSum
import KE.KDictLaws
import KE.KDictList
import PyProof.Rows.SeqMore
import PySem.Challenge.RW_tintties_k13_whole_turned
set_option Elab.async false
set_option linter.all false
set_option maxRecDepth 100000
namespace L2
open PySem PySem.Spec PyProof.Rows
abbrev Key := Sum Int Str
def keyIs : Key → Value → Bool
  | .inl k, v => Value.isInt k v
  | .inr x, v => Value.isStrOf x v
def keyH (w : World) : Key → Int
  | .inl k => hashInt k
  | .inr x => hashStr w x
theorem keyIs_shape : ∀ {k : Key} {v : Value}, keyIs k v = true → (∃ i t, k = Sum.inl i ∧ v = Value.int i t) ∨ (∃ x t, k = Sum.inr x ∧ v = Value.str x t)
  | .inl i, v, h => by
    obtain ⟨t, e⟩ := Value.isInt_shape (k := i) (v := v) h
    exact .inl ⟨i, t, rfl, e⟩
  | .inr x, v, h => by
    obtain ⟨t, e⟩ := Value.isStrOf_shape (x := x) (v := v) h
    exact .inr ⟨x, t, rfl, e⟩
theorem keyIs_int (i : Int) (t : Tok) : keyIs (.inl i) (.int i t) = true := by simp [keyIs, Value.isInt]
theorem keyIs_str (x : Str) (t : Tok) : keyIs (.inr x) (.str x t) = true := by simp [keyIs, Value.isStrOf]
theorem key_ll (a b : Int) : decide ((Sum.inl a : Key) = Sum.inl b) = (a == b) := by
  by_cases e : a = b
  · subst e; simp
  · have h : ¬ (Sum.inl a : Key) = Sum.inl b := fun q => e (Sum.inl.inj q)
    rw [decide_eq_false h]
    exact (beq_eq_false_iff_ne.mpr e).symm
theorem key_rr (a b : Str) : decide ((Sum.inr a : Key) = Sum.inr b) = decide (a = b) := by
  by_cases e : a = b
  · subst e; simp
  · have h : ¬ (Sum.inr a : Key) = Sum.inr b := fun q => e (Sum.inr.inj q)
    rw [decide_eq_false h, decide_eq_false e]
theorem key_lr (a : Int) (b : Str) : decide ((Sum.inl a : Key) = Sum.inr b) = false := decide_eq_false (fun q => nomatch q)
theorem key_rl (a : Str) (b : Int) : decide ((Sum.inr a : Key) = Sum.inl b) = false := decide_eq_false (fun q => nomatch q)
def mixKind (prog : Program) (w : World) : PySem.KeyKind prog w Key where
  is := keyIs
  hash := keyH w
  inj := fun v a b ha hb => by
    rcases keyIs_shape ha with ⟨i, t, rfl, rfl⟩ | ⟨x, t, rfl, rfl⟩
    · rcases keyIs_shape hb with ⟨j, u, rfl, e⟩ | ⟨y, u, rfl, e⟩
      · injection e with e1 _; rw [e1]
      · exact nomatch e
    · rcases keyIs_shape hb with ⟨j, u, rfl, e⟩ | ⟨y, u, rfl, e⟩
      · exact nomatch e
      · injection e with e1 _; rw [e1]
  byValue := fun k v h => by
    rcases keyIs_shape h with ⟨i, t, rfl, rfl⟩ | ⟨x, t, rfl, rfl⟩ <;> rfl
  pyHash := fun hv h => by
    rcases keyIs_shape hv with ⟨i, t, rfl, rfl⟩ | ⟨x, t, rfl, rfl⟩
    · exact wpAny_pyHash_int h
    · exact wpAny_pyHash_str h
  eqBool := fun hu hv h => by
    rcases keyIs_shape hu with ⟨i, t, rfl, rfl⟩ | ⟨x, t, rfl, rfl⟩
    · rcases keyIs_shape hv with ⟨j, u, rfl, rfl⟩ | ⟨y, u, rfl, rfl⟩
      · rw [key_ll] at h; exact wpAny_eqBool_int h
      · rw [key_lr] at h; exact SeqAt.EqAt.int_str i t y u _ _ _ _ h
    · rcases keyIs_shape hv with ⟨j, u, rfl, rfl⟩ | ⟨y, u, rfl, rfl⟩
      · rw [key_rl] at h; exact SeqAt.EqAt.str_int x t j u _ _ _ _ h
      · rw [key_rr] at h; exact wpAny_eqBool_str h
  «strs» := fun k x t v h => by
    rcases keyIs_shape h with ⟨i, u, rfl, e⟩ | ⟨y, u, rfl, e⟩
    · exact nomatch e
    · injection e with e1 _
      subst e1
      cases v <;> rfl
theorem mixKind_int (prog : Program) (w : World) (i : Int) (t : Tok) : (mixKind prog w).is (.inl i) (.int i t) = true := keyIs_int i t
theorem mixKind_str (prog : Program) (w : World) (x : Str) (t : Tok) : (mixKind prog w).is (.inr x) (.str x t) = true := keyIs_str x t
end L2
namespace L2
open PySem PySem.Spec PyProof.Rows
inductive V where
  | non | bl (b : Bool) | int (i : Int) | str (x : Str) | byt (b : Array UInt8) | flt (b : UInt64) | ref (a : Addr) | ty (n : String)
  deriving DecidableEq
def RelV : V → Value → Prop
  | .non, u => u = Value.none
  | .bl b, u => u = Value.bool b
  | .int i, u => ∃ t, u = Value.int i t
  | .str x, u => ∃ t, u = Value.str x t
  | .byt b, u => ∃ t, u = Value.bytes b t
  | .flt b, u => ∃ t, u = Value.float b t
  | .ref a, u => u = Value.ref a
  | .ty n, u => u = Value.type n
abbrev Vals : List V → List Value → Prop := Paired RelV
theorem Vals.length {xs : List V} {us : List Value} (r : Vals xs us) : xs.length = us.length := Paired.length r
theorem Vals.get : ∀ {xs : List V} {us : List Value} {i : Nat} {x : V}, Vals xs us → xs[i]? = some x → ∃ u, us[i]? = some u ∧ RelV x u
  | _, _, _, _, .nil, e => by simp at e
  | _, _, 0, _, .cons r _, e => by simp at e; subst e; exact ⟨_, rfl, r⟩
  | _, _, i + 1, x, .cons _ t, e => by
    obtain ⟨u, h1, h2⟩ := Vals.get (i := i) (x := x) t (by simpa using e)
    exact ⟨u, by simpa using h1, h2⟩
theorem Vals.set {x : V} {u : Value} (r : RelV x u) : ∀ {xs : List V} {us : List Value} (i : Nat), Vals xs us → Vals (xs.set i x) (us.set i u)
  | _, _, _, .nil => .nil
  | _, _, 0, .cons _ t => .cons r t
  | _, _, i + 1, .cons q t => .cons q (Vals.set r i t)
theorem Vals.append : ∀ {xs ys : List V} {us ws : List Value}, Vals xs us → Vals ys ws → Vals (xs ++ ys) (us ++ ws)
  | _, _, _, _, .nil, s => s
  | _, _, _, _, .cons r t, s => .cons r (Vals.append t s)
theorem Vals.take : ∀ {xs : List V} {us : List Value} (n : Nat), Vals xs us → Vals (xs.take n) (us.take n)
  | _, _, 0, _ => .nil
  | _, _, _ + 1, .nil => .nil
  | _, _, n + 1, .cons r t => .cons r (Vals.take n t)
theorem Vals.drop : ∀ {xs : List V} {us : List Value} (n : Nat), Vals xs us → Vals (xs.drop n) (us.drop n)
  | _, _, 0, r => r
  | _, _, _ + 1, .nil => .nil
  | _, _, n + 1, .cons _ t => Vals.drop n t
def RelO : Option V → Option Value → Prop
  | some v, some u => RelV v u
  | none, none => True
  | _, _ => False
def KV {κ : Type} : List (κ × V) → List (κ × Value) → Prop := Paired fun (p : κ × V) (q : κ × Value) => p.1 = q.1 ∧ RelV p.2 q.2
def kV : Key → V
  | .inl i => .int i
  | .inr x => .str x
inductive HO where
  | lst (xs : List V)
  | tup (xs : List V)
  | dK (kvs : List (Key × V)) | dT (kvs : List (List Key × V))
  | set (S : Int → Bool) (n : Nat)
  | ins (C dx : Addr) (fs : List (Str × V))
  | own (x : Addr)
  | xd (fs : List (Str × V))
  | met (f x : Addr)
  | rng (lo hi : Int)
  | frz (o : Obj) (u : HO)
  | tbl (ps : Array Value)
  | ext (φ : Heap → Prop)
abbrev Hp := Addr → Option HO
def upd (H : Hp) (a : Addr) (o : HO) : Hp := fun b => if b = a then some o else H b
theorem upd_same {H : Hp} {a : Addr} {o : HO} : upd H a o a = some o := by unfold upd; rw [if_pos rfl]
theorem upd_ne {H : Hp} {a b : Addr} {o : HO} (h : b ≠ a) : upd H a o b = H b := by unfold upd; rw [if_neg h]
theorem ne_of {H : Hp} {a b : Addr} {o u : HO} (h : H a = some o) (h' : H b = some u) (d : o ≠ u) : a ≠ b := by
  intro e; subst e; rw [h] at h'; exact d (Option.some.inj h')
theorem ne_of_none {H : Hp} {a b : Addr} {o : HO} (h : H a = some o) (h' : H b = none) : a ≠ b := by
  intro e; subst e; rw [h] at h'; cases h'
section
variable (P : Program) (w : World)
def ObjOk (H : Hp) (h : Heap) (a : Addr) : HO → Prop
  | .lst xs => xs.length ≤ sizeLine ∧ ∃ (its : List Value) (n : Nat), Vals xs its ∧ h.get? a = some { cls := .type "list", data := .seq its.toArray n }
  | .tup xs => xs.length ≤ sizeLine ∧ ∃ its : List Value, Vals xs its ∧ IsTup h a its.toArray
  | .dK kvs => kvs.length ≤ sizeLine ∧ (a == sysModules) = false ∧ ∃ vs, KV kvs vs ∧ h.DictOf (mixKind P w) a vs
  | .dT kvs => kvs.length ≤ sizeLine ∧ (a == sysModules) = false ∧ ∃ xs : List (List Key × Addr × Value),
      Paired (fun (p : List Key × V) (q : List Key × Addr × Value) => p.1 = q.1 ∧ H q.2.1 = some (.tup (p.1.map kV)) ∧ RelV p.2 q.2.2) kvs xs ∧
      ∃ o es ep, h.get? a = some o ∧ o.ExactDict ∧ o.data = .dict es ep ∧ es.toList = xs.map (entryOfKey (tupleKind (mixKind P w))) ∧ (xs.map (·.1)).Nodup
  | .set S n => h.SetOf (intKind P w) a S n
  | .ins C dx fs => H dx = some (.own a) ∧ fs.length ≤ 1000 ∧ dx ≠ a ∧ h.get? a = some (PySem.W.instObj C dx) ∧
      ∃ mA, h.Ns1 dx mA ∧ (∀ f, RelO (fs.lookup f) (mA f)) ∧ PySem.Within mA (fs.map (·.1))
  | .own _ => ∃ o, h.get? a = some o
  | .xd fs => ∃ mA, h.Ns1 a mA ∧ ∀ f, RelO (fs.lookup f) (mA f)
  | .rng lo hi => ∃ t u v, h.get? a = some { cls := .type "range", data := .fields #[.int lo t, .int hi u, .int 1 v] }
  | .frz o u => h.get? a = some o ∧ ObjOk H h a u
  | .tbl ps => h.get? a = some { cls := .none, data := .fields ps }
  | .met f x => h.get? a = some (PySem.W.methodObj (.ref f) (.ref x))
  | .ext φ => φ h ∧ (∃ o, h.get? a = some o) ∧ ∀ h1 h2 : Heap, φ h1 → (∀ o, h1.get? a = some o → h2.get? a = some o) → φ h2
def HOk (H : Hp) (h : Heap) : Prop := ∀ a o, H a = some o → ObjOk P w H h a o
end
section
variable {P : Program} {w : World} {H H' : Hp} {h h' : Heap} {a : Addr} {o : HO}
theorem ObjOk.lt (x : ObjOk P w H h a o) : a < h.objs.size := by
  cases o with
  | lst xs => obtain ⟨_, _, _, _, e⟩ := x; exact Heap.lt_size e
  | tup xs => obtain ⟨_, _, _, p⟩ := x; exact p.lt
  | dK kvs => obtain ⟨_, _, _, _, o, _, _, e, _⟩ := x; exact Heap.lt_size e
  | dT kvs => obtain ⟨_, _, _, _, o, _, _, e, _⟩ := x; exact Heap.lt_size e
  | set S n => obtain ⟨o, _, _, _, e, _⟩ := x; exact Heap.lt_size e
  | ins C dx fs => obtain ⟨_, _, _, e, _⟩ := x; exact Heap.lt_size e
  | own y => obtain ⟨_, e⟩ := x; exact Heap.lt_size e
  | xd fs => obtain ⟨_, ⟨_, _, _, e, _⟩, _⟩ := x; exact Heap.lt_size e
  | rng lo hi => obtain ⟨_, _, _, e⟩ := x; exact Heap.lt_size e
  | frz ob u => obtain ⟨e, _⟩ := x; exact Heap.lt_size e
  | tbl ps => exact Heap.lt_size (show h.get? a = some _ from x)
  | met f y => exact Heap.lt_size (show h.get? a = some _ from x)
  | ext φ => obtain ⟨_, ⟨_, e⟩, _⟩ := x; exact Heap.lt_size e
theorem Paired.mapP {α β : Type} {F G : α → β → Prop} : ∀ {l₁ : List α} {l₂ : List β}, Paired F l₁ l₂ → (∀ a b, F a b → G a b) → Paired G l₁ l₂
  | _, _, .nil, _ => .nil
  | _, _, .cons r t, f => .cons (f _ _ r) (Paired.mapP t f)
theorem ObjOk.stay (x : ObjOk P w H h a o) (k : ∀ b u, (b = a ∨ H b = some (.own a)) → h.get? b = some u → h'.get? b = some u)
    (ho : ∀ b, H b = some (.own a) → H' b = some (.own a)) (ht : ∀ b xs, H b = some (.tup xs) → H' b = some (.tup xs)) : ObjOk P w H' h' a o := by
  induction o with
  | lst xs => obtain ⟨z, its, n, r, e⟩ := x; exact ⟨z, its, n, r, k _ _ (.inl rfl) e⟩
  | tup xs => obtain ⟨z, its, r, ob, e, c⟩ := x; exact ⟨z, its, r, ob, k _ _ (.inl rfl) e, c⟩
  | dK kvs => obtain ⟨z, y, vs, r, ob, es, ep, e, c⟩ := x; exact ⟨z, y, vs, r, ob, es, ep, k _ _ (.inl rfl) e, c⟩
  | dT kvs =>
    obtain ⟨z, y, xs, r, ob, es, ep, e, c⟩ := x
    exact ⟨z, y, xs, Paired.mapP r fun p q z => ⟨z.1, ht _ _ z.2.1, z.2.2⟩, ob, es, ep, k _ _ (.inl rfl) e, c⟩
  | set S n => obtain ⟨ob, es, ep, t, e, c⟩ := x; exact ⟨ob, es, ep, t, k _ _ (.inl rfl) e, c⟩
  | ins C dx fs =>
    obtain ⟨d, z, ne, e, mA, ⟨od, es, ep, e2, c⟩, r⟩ := x
    exact ⟨ho _ d, z, ne, k _ _ (.inl rfl) e, mA, ⟨od, es, ep, k _ _ (.inr d) e2, c⟩, r⟩
  | own y => obtain ⟨ob, e⟩ := x; exact ⟨ob, k _ _ (.inl rfl) e⟩
  | xd fs => obtain ⟨mA, ⟨od, es, ep, e, c⟩, r⟩ := x; exact ⟨mA, ⟨od, es, ep, k _ _ (.inl rfl) e, c⟩, r⟩
  | rng lo hi => obtain ⟨t, u, v, e⟩ := x; exact ⟨t, u, v, k _ _ (.inl rfl) e⟩
  | frz ob u ih => obtain ⟨e, q⟩ := x; exact ⟨k _ _ (.inl rfl) e, ih q⟩
  | tbl ps =>
    have e : h.get? a = some { cls := .none, data := .fields ps } := x
    show h'.get? a = some { cls := .none, data := .fields ps }
    exact k a _ (.inl rfl) e
  | met f y =>
    have e : h.get? a = some (PySem.W.methodObj (.ref f) (.ref y)) := x
    show h'.get? a = some (PySem.W.methodObj (.ref f) (.ref y))
    exact k a _ (.inl rfl) e
  | ext φ => obtain ⟨p, ⟨o, e⟩, st⟩ := x; exact ⟨st _ _ p fun o q => k _ _ (.inl rfl) q, ⟨o, k _ _ (.inl rfl) e⟩, st⟩
theorem HOk.lt (x : HOk P w H h) (e : H a = some o) : a < h.objs.size := (x a o e).lt
theorem HOk.fresh (x : HOk P w H h) (e : h.objs.size ≤ a) : H a = none := by
  cases q : H a with
  | none => rfl
  | some u => exact absurd (Nat.lt_of_lt_of_le (x.lt q) e) (Nat.lt_irrefl _)
theorem HOk.kept (x : HOk P w H h) (k : ∀ b u, h.get? b = some u → h'.get? b = some u) : HOk P w H h' := fun a o e =>
  (x a o e).stay (fun b u _ q => k b u q) (fun _ q => q) fun _ _ q => q
theorem HOk.laid (x : HOk P w H h) (k : ∀ b u, h.get? b = some u → h'.get? b = some u) (hp : h.objs.size ≤ a) (new : ObjOk P w (upd H a o) h' a o) : HOk P w (upd H a o) h' := fun b u e => by
  have hn := x.fresh hp
  by_cases hb : b = a
  · subst hb; rw [upd_same] at e; cases e; exact new
  · rw [upd_ne hb] at e
    exact (x b u e).stay (fun c v _ q => k c v q) (fun c q => by rw [upd_ne (ne_of_none q hn)]; exact q) fun c xs q => by rw [upd_ne (ne_of_none q hn)]; exact q
end
def Rd (H : Hp) (a : Addr) (u : HO) : Prop := H a = some u ∨ ∃ o, H a = some (.frz o u)
theorem Rd.of {H : Hp} {a : Addr} {u : HO} (h : H a = some u) : Rd H a u := .inl h
theorem Rd.ok {P : Program} {w : World} {H : Hp} {h : Heap} {a : Addr} {u : HO} (r : Rd H a u) (x : HOk P w H h) : ObjOk P w H h a u := by
  rcases r with r | ⟨o, r⟩
  · exact x a u r
  · obtain ⟨_, q⟩ := x a _ r
    exact q
def Mut : Option HO → Prop
  | some (.lst _) => True
  | some (.dK _) => True
  | some (.dT _) => True
  | some (.set _ _) => True
  | some (.ins _ _ _) => True
  | some (.ext _) => True
  | _ => False
section
variable {P : Program} {w : World} {H : Hp} {h h' : Heap} {x e : Addr} {o' : HO}
theorem HOk.write (ok : HOk P w H h) (mu : Mut (H x)) (he : e = x ∨ H e = some (.own x)) (k : ∀ b u, b ≠ e → h.get? b = some u → h'.get? b = some u) (heo : ∃ u, h'.get? e = some u)
    (new : ObjOk P w (upd H x o') h' x o') : HOk P w (upd H x o') h' := fun b u q => by
  have nown : ∀ c y, H c = some (.own y) → c ≠ x := fun c y r z => by subst z; rw [r] at mu; exact mu
  have ntup : ∀ c xs, H c = some (.tup xs) → c ≠ x := fun c xs r z => by subst z; rw [r] at mu; exact mu
  by_cases hb : b = x
  · subst hb; rw [upd_same] at q; cases q; exact new
  · rw [upd_ne hb] at q
    by_cases hbe : b = e
    · have q' : H b = some (.own x) := by
        rcases he with z | z
        · exact absurd (hbe.trans z) hb
        · rw [hbe]; exact z
      rw [q] at q'; cases q'
      obtain ⟨v, hv⟩ := heo
      exact ⟨v, by rw [hbe]; exact hv⟩
    · refine (ok b u q).stay (fun c v hc r => k c v ?_ r) (fun c r => by rw [upd_ne (nown c b r)]; exact r) fun c xs r => by rw [upd_ne (ntup c xs r)]; exact r
      rcases hc with rfl | hc
      · exact hbe
      · rintro rfl
        rcases he with z | z
        · exact nown c b hc z
        · rw [hc] at z; cases z; exact hb rfl
end
structure Un (fs ex : List Addr) (H H' : Hp) (h h' : Heap) : Prop where
  keep : ∀ b o, h.get? b = some o → H b = none → b ∉ fs → b ∉ ex → h'.get? b = some o
  slot : ∀ b o, h.get? b = some o → H b = none → b ∈ fs → b ∉ ex → ∃ sl, h'.get? b = some { o with slots := sl }
  free : ∀ b o, h.get? b = some o → H b = none → b ∉ ex → H' b = none
  there : ∀ b o, h.get? b = some o → b ∉ ex → ∃ o', h'.get? b = some o'
  tups : ∀ b xs, H b = some (.tup xs) → H' b = some (.tup xs)
  frzs : ∀ b o u, H b = some (.frz o u) → H' b = some (.frz o u)
  tbls : ∀ b ps, H b = some (.tbl ps) → ∃ more, H' b = some (.tbl (ps ++ more))
section
variable {fs fs' ex ex' : List Addr} {H H1 H2 : Hp} {h h1 h2 h' : Heap} {a x e : Addr} {o : HO}
theorem Un.any (u : Un fs ex H H1 h h1) {b : Addr} {ob : Obj} (q : h.get? b = some ob) (n : H b = none) (hx : b ∉ ex) : ∃ sl, h1.get? b = some { ob with slots := sl } := by
  by_cases hb : b ∈ fs
  · exact u.slot b ob q n hb hx
  · exact ⟨ob.slots, u.keep b ob q n hb hx⟩
theorem Un.trans (a : Un fs ex H H1 h h1) (b : Un fs ex H1 H2 h1 h2) : Un fs ex H H2 h h2 where
  keep := fun c ob q n hc hx => b.keep c ob (a.keep c ob q n hc hx) (a.free c ob q n hx) hc hx
  slot := fun c ob q n hc hx => by
    obtain ⟨sl, e1⟩ := a.slot c ob q n hc hx
    obtain ⟨sl', e2⟩ := b.slot c _ e1 (a.free c ob q n hx) hc hx
    exact ⟨sl', e2⟩
  free := fun c ob q n hx => by
    obtain ⟨o', e1⟩ := a.there c ob q hx
    exact b.free c o' e1 (a.free c ob q n hx) hx
  there := fun c ob q hx => by
    obtain ⟨o', e1⟩ := a.there c ob q hx
    exact b.there c o' e1 hx
  tups := fun c xs q => b.tups c xs (a.tups c xs q)
  frzs := fun c ob xs q => b.frzs c ob xs (a.frzs c ob xs q)
  tbls := fun c ps q => by
    obtain ⟨m1, e1⟩ := a.tbls c ps q
    obtain ⟨m2, e2⟩ := b.tbls c _ e1
    exact ⟨m1 ++ m2, by rw [e2, Array.append_assoc]⟩
theorem Un.kept (k : ∀ b u, h.get? b = some u → h'.get? b = some u) : Un fs ex H H h h' :=
  ⟨fun b ob q _ _ _ => k b ob q, fun b ob q _ _ _ => ⟨ob.slots, k b ob q⟩, fun _ _ _ n _ => n, fun b ob q _ => ⟨ob, k b ob q⟩, fun _ _ q => q, fun _ _ _ q => q, fun _ ps q => ⟨#[], by rw [q]; simp⟩⟩
theorem Un.refl : Un fs ex H H h h := Un.kept fun _ _ q => q
theorem Un.laid (k : ∀ b u, h.get? b = some u → h'.get? b = some u) (hp : h.objs.size ≤ a) (hn : H a = none) : Un fs ex H (upd H a o) h h' where
  keep := fun b u q _ _ _ => k b u q
  slot := fun b u q _ _ _ => ⟨u.slots, k b u q⟩
  free := fun b u q n _ => by rw [upd_ne (Nat.ne_of_lt (Nat.lt_of_lt_of_le (Heap.lt_size q) hp))]; exact n
  there := fun b u q _ => ⟨u, k b u q⟩
  tups := fun b xs q => by rw [upd_ne (ne_of_none q hn)]; exact q
  frzs := fun b u xs q => by rw [upd_ne (ne_of_none q hn)]; exact q
  tbls := fun b ps q => ⟨#[], by rw [upd_ne (ne_of_none q hn), q]; simp⟩
theorem Un.write (mu : Mut (H x)) (he : e = x ∨ H e = some (.own x)) (k : ∀ b u, b ≠ e → h.get? b = some u → h'.get? b = some u) (heo : ∃ u, h'.get? e = some u) : Un fs ex H (upd H x o) h h' := by
  have hx : ∀ b, H b = none → b ≠ x := fun b n z => by subst z; rw [n] at mu; exact mu
  have hb : ∀ b, H b = none → b ≠ e := fun b n z => by
    subst z
    rcases he with r | r
    · exact hx b n r
    · rw [n] at r; cases r
  have hm : ∀ b u, H b = some u → ¬ Mut (some u) → b ≠ x := fun b u q nm z => by subst z; rw [q] at mu; exact nm mu
  refine ⟨fun b u q n _ _ => k b u (hb b n) q, fun b u q n _ _ => ⟨u.slots, k b u (hb b n) q⟩, fun b u q n _ => by rw [upd_ne (hx b n)]; exact n, fun b u q _ => ?_,
    fun b xs q => by rw [upd_ne (hm b _ q fun z => z)]; exact q, fun b u xs q => by rw [upd_ne (hm b _ q fun z => z)]; exact q, fun b ps q => ⟨#[], by rw [upd_ne (hm b _ q fun z => z), q]; simp⟩⟩
  by_cases hbe : b = e
  · subst hbe; exact heo
  · exact ⟨u, k b u hbe q⟩
theorem Un.mono (u : Un fs ex H H1 h h1) (hs : ∀ b ∈ fs, b ∈ fs') (hx : ∀ b ∈ ex, b ∈ ex') : Un fs' ex' H H1 h h1 :=
  ⟨fun b ob q n hb he => u.keep b ob q n (fun z => hb (hs b z)) fun z => he (hx b z), fun _ _ q n _ he => u.any q n fun z => he (hx _ z), fun b ob q n he => u.free b ob q n fun z => he (hx b z), fun b ob q he => u.there b ob q fun z => he (hx b z), u.tups, u.frzs, u.tbls⟩
end
def trk (h : Heap) (H : Hp) : List Addr := (List.range h.objs.size).filter fun a => (H a).isSome
def hidT (h : Heap) (H : Hp) : Heap := PySem.W.hideAll h (trk h H)
theorem hidT_size (h : Heap) (H : Hp) : (hidT h H).objs.size = h.objs.size := PySem.W.hideAll_size _ _
theorem hidT_get {h : Heap} {H : Hp} {b : Addr} {o : Obj} (e : h.get? b = some o) (n : H b = none) : (hidT h H).get? b = some o :=
  PySem.W.hideAll_get _ e fun hm => by
    have q : (H b).isSome = true := (List.mem_filter.mp hm).2
    rw [n] at q; simp at q
theorem of_hidT {h : Heap} {H : Hp} {b : Addr} {o : Obj} (e : (hidT h H).get? b = some o) : h.get? b = some o ∧ H b = none := by
  have e' : h.get? b = some o := PySem.W.of_hideAll (trk h H) e
  refine ⟨e', ?_⟩
  cases q : H b with
  | none => rfl
  | some x =>
    have hm : b ∈ trk h H := List.mem_filter.mpr ⟨List.mem_range.mpr (Heap.lt_size e'), by simp [q]⟩
    have z : (hidT h H).get? b = none := PySem.W.hideAll_none (trk h H) hm
    rw [z] at e; cases e
def allNews (g h : Heap) (L : Addr) : List (Addr × Obj) := (List.range h.objs.size).filterMap fun a => if a = L ∨ (g.get? a).isSome = true then none else (h.get? a).map fun o => (a, o)
def rest (g h : Heap) (L d : Addr) : List (Addr × Obj) := (allNews g h L).filter fun p => decide (p.1 ≠ d)
end L2
namespace L2
open PySem PySem.Spec PyProof.Rows
structure Mod (K : PySem.W.Frag) (mg : Str → Option Value) (base : Heap) : Prop where
  kin : K.In base
  glob : base.Ns mainGlobals mg
  blt : ∃ mb, base.Ns builtinsNs mb ∧ ∀ x : Str, x ≠ "__name__" → mb x = bootBuiltins x
  nolimit : base.NoLimit
structure Cx where
  prog : Program
  w : World
  K : PySem.W.Frag
  mg : Str → Option Value
  base : Heap
  A : Around
  N : List Str
  s₀ : Shared
  H₀ : Hp
  env : Env
  outer : List Env
  stack : List Env
  ex : List Addr
  fn : Str → Bool
  calm : Bool
  pn : List (Addr × Obj)
  xe : Value → Shared → Prop
def frs (l : List Env) : List Addr := l.filterMap (·.frame)
abbrev Cx.fs (X : Cx) : List Addr := frs X.outer
def Vis (sc : Scope) (x : Str) : Prop := sc.names.lookup x = some .local ∨ sc.names.lookup x = some .cell ∨ sc.names.lookup x = some .free
def Loc (sc : Scope) (x : Str) : Prop := sc.names.lookup x = some .local ∨ sc.names.lookup x = some .cell
def Look (env : Env) (h : Heap) (m : Str → Option Value) (x : Str) (u : Value) : Prop :=
  (env.kindOf x = some .local ∧ m x = some u) ∨ ((env.kindOf x = some .cell ∨ env.kindOf x = some .free) ∧ ∃ c, env.cells.lookup x = some c ∧ h.IsCell c (some u))
structure Cx.Ok (X : Cx) : Prop where
  mod : Mod X.K X.mg X.base
  kind : X.env.scope.kind = .function
  glob : X.env.globals = mainGlobals
  blt : X.env.builtins = builtinsNs
  above : X.s₀.heap.objs.size ≤ X.env.locals
  inj : ∀ x y c, X.env.cells.lookup x = some c → X.env.cells.lookup y = some c → x = y
  has : ∀ x, (X.env.kindOf x = some .cell ∨ X.env.kindOf x = some .free) → ∃ c, X.env.cells.lookup x = some c
  cab : ∀ x c, X.fn x = true → X.env.cells.lookup x = some c → X.s₀.heap.objs.size ≤ c
  hd : X.calm = true → X.A.handled = none
  frames : X.A.frames = some X.stack
  stk : X.stack = X.outer ∨ (X.stack = X.env :: X.outer ∧ X.env.frame = some X.env.locals)
  exf : ∀ b ∈ X.ex, b ≠ X.env.locals ∧ ∀ x c, X.env.cells.lookup x = some c → c ≠ b
  bs : ∀ b o, X.base.get? b = some o → X.s₀.heap.get? b = some o ∧ X.H₀ b = none
  bsz : X.base.objs.size ≤ X.s₀.heap.objs.size
  noex : ∀ b o, X.base.get? b = some o → b ∉ X.ex
  exfs : ∀ b ∈ X.ex, b ∉ X.fs
  funs : X.s₀.heap.FunFrames X.base X.outer
  frf : ∀ b ∈ X.fs, X.H₀ b = none
structure Inv (X : Cx) (pins : List (Addr × Obj)) (σ : List (Option V)) (H : Hp) (s : Shared) : Prop where
  ok : X.Ok
  os : s.os = X.s₀.os
  bare : AllBare s.gens
  base : Un X.fs X.ex X.H₀ H X.s₀.heap s.heap
  loc : ∃ m, s.heap.Ns X.env.locals m ∧ ∀ (i : Nat) (x : Str) (v : V), X.N[i]? = some x → σ[i]? = some (some v) → Vis X.env.scope x → ∃ u, RelV v u ∧ Look X.env s.heap m x u
  cell : ∀ x c, X.env.cells.lookup x = some c → ∃ v, s.heap.IsCell c v
  free : H X.env.locals = none
  freeC : ∀ x c, X.env.cells.lookup x = some c → H c = none
  pin : ∀ p ∈ X.pn ++ pins, s.heap.get? p.1 = some p.2 ∧ H p.1 = none ∧ p.1 ≠ X.env.locals ∧ p.1 ∉ X.fs ∧ ∀ v, p.2.data ≠ .cell v
  hok : HOk X.prog X.w H s.heap
  len : σ.length = X.N.length
section
variable {X : Cx} {pins : List (Addr × Obj)} {σ : List (Option V)} {H H' : Hp} {s : Shared} {h' : Heap}
theorem Cx.Ok.nofr (ok : X.Ok) {b : Addr} {o : Obj} (e : X.base.get? b = some o) : b ∉ X.fs := fun hb => by
  have := (ok.funs.mem hb).1
  rw [e] at this; cases this
theorem Inv.bs (I : Inv X pins σ H s) : ∀ b o, X.base.get? b = some o → s.heap.get? b = some o ∧ H b = none := fun b o e =>
  ⟨I.base.keep b o (I.ok.bs b o e).1 (I.ok.bs b o e).2 (I.ok.nofr e) (I.ok.noex b o e), I.base.free b o (I.ok.bs b o e).1 (I.ok.bs b o e).2 (I.ok.noex b o e)⟩
theorem Inv.bk (I : Inv X pins σ H s) : ∀ b o, X.base.get? b = some o → s.heap.get? b = some o := fun b o e => (I.bs b o e).1
theorem Inv.mod (I : Inv X pins σ H s) : Mod X.K X.mg X.base := I.ok.mod
theorem Inv.kIn (I : Inv X pins σ H s) : X.K.In s.heap := I.ok.mod.kin.keeps I.bk
theorem Inv.nolimit (I : Inv X pins σ H s) : s.heap.NoLimit := I.ok.mod.nolimit.keeps I.bk
theorem Inv.fr (I : Inv X pins σ H s) : ∃ m, Fr X.base X.env.locals s.heap m :=
  let ⟨m, hn, _⟩ := I.loc
  ⟨m, hn, I.bk, Nat.le_trans I.ok.bsz I.ok.above⟩
theorem Inv.lt (I : Inv X pins σ H s) : X.env.locals < s.heap.objs.size := let ⟨_, hn, _⟩ := I.loc; hn.lt
theorem Inv.sz (I : Inv X pins σ H s) : X.s₀.heap.objs.size ≤ s.heap.objs.size := Nat.le_trans I.ok.above (Nat.le_of_lt I.lt)
theorem Inv.nofs (I : Inv X pins σ H s) {a : Addr} (h : s.heap.objs.size ≤ a) : a ∉ X.fs := fun hb => by
  obtain ⟨_, o, ho, _⟩ := I.ok.funs.mem hb
  exact absurd (Nat.lt_of_lt_of_le (Heap.lt_size ho) (Nat.le_trans I.sz h)) (Nat.lt_irrefl _)
theorem Inv.cne (I : Inv X pins σ H s) : ∀ x c, X.env.cells.lookup x = some c → c ≠ X.env.locals := fun x c e z => by
  obtain ⟨v, o, ho, hd⟩ := I.cell x c e
  obtain ⟨m, ⟨o', es, ep, ho', hd', _⟩, _⟩ := I.loc
  rw [z, ho'] at ho; cases ho; rw [hd'] at hd; cases hd
theorem Inv.funs (I : Inv X pins σ H s) : s.heap.FunFrames X.base X.outer := by
  have all : ∀ (l : List Env), (∀ b ∈ frs l, b ∈ X.fs) → X.s₀.heap.FunFrames X.base l → s.heap.FunFrames X.base l := by
    intro l
    induction l with
    | nil => intro _ _; trivial
    | cons env r ih =>
      intro hs hl
      obtain ⟨hk, ⟨L, o, hf, hn, ho, hd⟩, hr⟩ := hl
      have hL : L ∈ X.fs := hs L (by unfold frs; rw [List.filterMap_cons, hf]; exact List.mem_cons_self)
      obtain ⟨sl, e⟩ := I.base.slot L o ho (I.ok.frf L hL) hL fun z => I.ok.exfs L z hL
      exact ⟨hk, ⟨L, _, hf, hn, e, hd⟩, ih (fun b hb => hs b (by unfold frs; rw [List.filterMap_cons, hf]; exact List.mem_cons_of_mem _ hb)) hr⟩
  exact all X.outer (fun _ hb => hb) I.ok.funs
theorem Inv.stack (I : Inv X pins σ H s) : s.heap.FunFrames X.base X.stack := by
  rcases I.ok.stk with e | ⟨e, hf⟩
  · rw [e]; exact I.funs
  · rw [e]
    obtain ⟨m, hn, _⟩ := I.loc
    refine .cons (by rw [I.ok.kind]; decide) hf hn ?_ I.funs
    exact Heap.get?_none_of_le (Nat.le_trans I.ok.bsz I.ok.above)
theorem Inv.stkSub (I : Inv X pins σ H s) : ∀ b ∈ frs X.stack, b ∈ X.env.locals :: X.fs := fun b hb => by
  rcases I.ok.stk with e | ⟨e, hf⟩
  · rw [e] at hb; exact List.mem_cons_of_mem _ hb
  · rw [e] at hb
    unfold frs at hb
    rw [List.filterMap_cons, hf] at hb
    exact hb
theorem Inv.stkFree (I : Inv X pins σ H s) : ∀ b ∈ frs X.stack, H b = none := fun b hb => by
  rcases List.mem_cons.mp (I.stkSub b hb) with e | hb
  · rw [e]; exact I.free
  · obtain ⟨_, o, ho, _⟩ := I.ok.funs.mem hb
    exact I.base.free b o ho (I.ok.frf b hb) fun z => I.ok.exfs b z hb
theorem Inv.step {g' : Array GenState} {t' : Nat} {d' : Drawn} {ch : List Addr} (I : Inv X pins σ H s)
    (hch : ∀ b ∈ ch, (b ∈ X.ex ∨ X.s₀.heap.objs.size ≤ b) ∧ b ≠ X.env.locals ∧ (∀ x c, X.env.cells.lookup x = some c → c ≠ b) ∧ ∀ p ∈ X.pn ++ pins, p.1 ≠ b)
    (keep : ∀ b o, b ≠ X.env.locals → b ∉ X.fs → b ∉ ch → s.heap.get? b = some o → H b = none → h'.get? b = some o)
    (slot : ∀ b o, b ≠ X.env.locals → b ∈ X.fs → b ∉ ch → s.heap.get? b = some o → H b = none → ∃ sl, h'.get? b = some { o with slots := sl }) (free : ∀ b o, b ∉ ch → s.heap.get? b = some o → H b = none → H' b = none)
    (there : ∀ b o, b ∉ ch → s.heap.get? b = some o → ∃ o', h'.get? b = some o')
    (tups : ∀ b xs, H b = some (.tup xs) → H' b = some (.tup xs)) (frzs : ∀ b o u, H b = some (.frz o u) → H' b = some (.frz o u)) (tbls : ∀ b ps, H b = some (.tbl ps) → ∃ more, H' b = some (.tbl (ps ++ more)))
    (ns : ∀ m, s.heap.Ns X.env.locals m → h'.Ns X.env.locals m) (hok : HOk X.prog X.w H' h') (hg : AllBare g') :
    Inv X pins σ H' { s with heap := h', gens := g', drawn := d', toks := t' } := by
  have neL : ∀ b o, X.s₀.heap.get? b = some o → b ≠ X.env.locals := fun b o e => Nat.ne_of_lt (Nat.lt_of_lt_of_le (Heap.lt_size e) I.ok.above)
  have neC : ∀ b o, X.s₀.heap.get? b = some o → b ∉ X.ex → b ∉ ch := fun b o e hx hb => by
    rcases (hch b hb).1 with z | z
    · exact hx z
    · exact absurd (Nat.lt_of_lt_of_le (Heap.lt_size e) z) (Nat.lt_irrefl _)
  have cellK : ∀ x c, X.env.cells.lookup x = some c → ∀ v, s.heap.IsCell c v → h'.IsCell c v := fun x c e v ⟨o, ho, hd⟩ => by
    have nch : c ∉ ch := fun z => (hch c z).2.2.1 x c e rfl
    by_cases hc : c ∈ X.fs
    · obtain ⟨sl, q⟩ := slot c o (I.cne x c e) hc nch ho (I.freeC x c e)
      exact ⟨_, q, hd⟩
    · exact ⟨o, keep c o (I.cne x c e) hc nch ho (I.freeC x c e), hd⟩
  refine ⟨I.ok, I.os, hg, ⟨fun b o e n hb hx => ?_, fun b o e n hb hx => ?_, fun b o e n hx => ?_, fun b o e hx => ?_, fun b xs e => tups b xs (I.base.tups b xs e), fun b o xs e => frzs b o xs (I.base.frzs b o xs e), fun b ps e => ?_⟩, ?_, fun x c e => ?_, ?_, fun x c e => ?_, fun p hp => ?_, hok, I.len⟩
  · exact keep b o (neL b o e) hb (neC b o e hx) (I.base.keep b o e n hb hx) (I.base.free b o e n hx)
  · obtain ⟨sl, e1⟩ := I.base.slot b o e n hb hx
    obtain ⟨sl', e2⟩ := slot b _ (neL b o e) hb (neC b o e hx) e1 (I.base.free b o e n hx)
    exact ⟨sl', e2⟩
  · obtain ⟨o', e1⟩ := I.base.there b o e hx
    exact free b o' (neC b o e hx) e1 (I.base.free b o e n hx)
  · obtain ⟨o', e1⟩ := I.base.there b o e hx
    exact there b o' (neC b o e hx) e1
  · obtain ⟨m1, e1⟩ := I.base.tbls b ps e
    obtain ⟨m2, e2⟩ := tbls b _ e1
    exact ⟨m1 ++ m2, by rw [e2, Array.append_assoc]⟩
  · obtain ⟨m, hn, hl⟩ := I.loc
    refine ⟨m, ns m hn, fun i x v e1 e2 e3 => ?_⟩
    obtain ⟨u, r, l⟩ := hl i x v e1 e2 e3
    refine ⟨u, r, ?_⟩
    rcases l with l | ⟨k, c, e, z⟩
    · exact .inl l
    · exact .inr ⟨k, c, e, cellK x c e _ z⟩
  · obtain ⟨v, z⟩ := I.cell x c e
    exact ⟨v, cellK x c e v z⟩
  · obtain ⟨m, ⟨o, _, _, ho, _⟩, _⟩ := I.loc
    exact free _ o (fun z => (hch _ z).2.1 rfl) ho I.free
  · obtain ⟨v, o, ho, hd⟩ := I.cell x c e
    exact free c o (fun z => (hch c z).2.2.1 x c e rfl) ho (I.freeC x c e)
  · obtain ⟨e, n, ne, nf, d⟩ := I.pin p hp
    have nch : p.1 ∉ ch := fun z => (hch p.1 z).2.2.2 p hp rfl
    exact ⟨keep p.1 p.2 ne nf nch e n, free p.1 p.2 nch e n, ne, nf, d⟩
theorem Inv.un {t' : Nat} (I : Inv X pins σ H s) (u : Un X.fs [] H H' s.heap h') (hok : HOk X.prog X.w H' h') : Inv X pins σ H' { s with heap := h', toks := t' } := by
  obtain ⟨m, ⟨o, es, ep, ho, r⟩, _⟩ := id I.loc
  obtain ⟨sl, hL⟩ := u.any ho I.free (by simp)
  exact I.step (g' := s.gens) (d' := s.drawn) (ch := []) (fun _ z => nomatch z) (fun b o _ hb _ e n => u.keep b o e n hb (by simp)) (fun b o _ hb _ e n => u.slot b o e n hb (by simp)) (fun b o _ e n => u.free b o e n (by simp)) (fun b o _ e => u.there b o e (by simp)) u.tups u.frzs u.tbls (fun m' hm => by
    obtain ⟨o', es', ep', ho', r'⟩ := hm
    rw [ho] at ho'; cases ho'
    exact ⟨_, es', ep', hL, r'⟩) hok I.bare
theorem Inv.call {g' : Array GenState} {t' : Nat} {d' : Drawn} {ch : List Addr} (I : Inv X pins σ H s) (u : Un (frs X.stack) ch H H' s.heap h') (hok : HOk X.prog X.w H' h') (hg : AllBare g')
    (hch : ∀ b ∈ ch, (b ∈ X.ex ∨ X.s₀.heap.objs.size ≤ b) ∧ b ≠ X.env.locals ∧ (∀ x c, X.env.cells.lookup x = some c → c ≠ b) ∧ ∀ p ∈ X.pn ++ pins, p.1 ≠ b) :
    Inv X pins σ H' { s with heap := h', gens := g', drawn := d', toks := t' } := by
  obtain ⟨m, ⟨o, es, ep, ho, r⟩, _⟩ := id I.loc
  obtain ⟨sl, hL⟩ := u.any ho I.free fun z => (hch _ z).2.1 rfl
  exact I.step (ch := ch) hch (fun b o hL hb hc e n => u.keep b o e n (fun z => (List.mem_cons.mp (I.stkSub b z)).elim hL hb) hc) (fun b o _ _ hc e n => u.any e n hc) (fun b o hc e n => u.free b o e n hc) (fun b o hc e => u.there b o e hc) u.tups u.frzs u.tbls (fun m' hm => by
    obtain ⟨o', es', ep', ho', r'⟩ := hm
    rw [ho] at ho'; cases ho'
    exact ⟨_, es', ep', hL, r'⟩) hok hg
theorem Inv.turned {t' : Nat} {it : Addr} (I : Inv X pins σ H s) (k : ∀ b o, b ≠ it → s.heap.get? b = some o → h'.get? b = some o) (hn : H it = none) (hL : it ≠ X.env.locals)
    (h1 : it ∈ X.ex ∨ X.s₀.heap.objs.size ≤ it) (h2 : ∀ x c, X.env.cells.lookup x = some c → c ≠ it) (h3 : ∀ p ∈ X.pn ++ pins, p.1 ≠ it) : Inv X pins σ H { s with heap := h', toks := t' } := by
  have nit : ∀ b u, H b = some u → b ≠ it := fun b u e z => by rw [z, hn] at e; cases e
  refine I.step (g' := s.gens) (d' := s.drawn) (ch := [it]) (fun b hb => ?_) (fun b o _ _ hc e _ => k b o (fun z => hc (by simp [z])) e) (fun b o _ _ hc e _ => ⟨o.slots, k b o (fun z => hc (by simp [z])) e⟩) (fun _ _ _ _ n => n)
    (fun b o hc e => ⟨o, k b o (fun z => hc (by simp [z])) e⟩) (fun _ _ e => e) (fun _ _ _ e => e) (fun b ps e => ⟨#[], by rw [e]; simp⟩) (fun m hm => ?_) (fun b u e => ?_) I.bare
  · have e : b = it := by simpa using hb
    subst e
    exact ⟨h1, hL, h2, h3⟩
  · obtain ⟨o, es, ep, ho, r⟩ := hm
    exact ⟨o, es, ep, k _ o (Ne.symm hL) ho, r⟩
  · refine (I.hok b u e).stay (fun c v hc q => k c v ?_ q) (fun _ q => q) fun _ _ q => q
    rcases hc with z | z
    · rw [z]; exact nit b u e
    · exact nit c _ z
theorem Inv.tok (I : Inv X pins σ H s) (t : Nat) : Inv X pins σ H { s with toks := t } := I.un (h' := s.heap) (t' := t) Un.refl I.hok
theorem Inv.kept {t' : Nat} (I : Inv X pins σ H s) (k : ∀ b u, s.heap.get? b = some u → h'.get? b = some u) : Inv X pins σ H { s with heap := h', toks := t' } := I.un (Un.kept k) (I.hok.kept k)
theorem Inv.laid {a : Addr} {o : HO} {t' : Nat} (I : Inv X pins σ H s) (k : ∀ b u, s.heap.get? b = some u → h'.get? b = some u) (hp : s.heap.objs.size ≤ a) (new : ObjOk X.prog X.w (upd H a o) h' a o) :
    Inv X pins σ (upd H a o) { s with heap := h', toks := t' } := I.un (Un.laid k hp (I.hok.fresh hp)) (I.hok.laid k hp new)
theorem Inv.write {x e : Addr} {o : HO} {t' : Nat} (I : Inv X pins σ H s) (mu : Mut (H x)) (he : e = x ∨ H e = some (.own x)) (k : ∀ b u, b ≠ e → s.heap.get? b = some u → h'.get? b = some u) (heo : ∃ u, h'.get? e = some u)
    (new : ObjOk X.prog X.w (upd H x o) h' x o) : Inv X pins σ (upd H x o) { s with heap := h', toks := t' } := I.un (Un.write mu he k heo) (I.hok.write mu he k heo new)
theorem Inv.weak {σ' : List (Option V)} (I : Inv X pins σ H s) (hl : σ'.length = σ.length) (w : ∀ (i : Nat) v, σ'[i]? = some (some v) → σ[i]? = some (some v)) : Inv X pins σ' H s :=
  ⟨I.ok, I.os, I.bare, I.base, let ⟨m, hn, hl'⟩ := I.loc; ⟨m, hn, fun i x v e1 e2 e3 => hl' i x v e1 (w i v e2) e3⟩, I.cell, I.free, I.freeC, I.pin, I.hok, hl.trans I.len⟩
theorem Inv.pins_of {pins' : List (Addr × Obj)} (I : Inv X pins σ H s) (h : ∀ p ∈ pins', s.heap.get? p.1 = some p.2 ∧ H p.1 = none ∧ p.1 ≠ X.env.locals ∧ p.1 ∉ X.fs ∧ ∀ v, p.2.data ≠ .cell v) : Inv X pins' σ H s :=
  ⟨I.ok, I.os, I.bare, I.base, I.loc, I.cell, I.free, I.freeC, fun p hp => (List.mem_append.mp hp).elim (fun z => I.pin p (List.mem_append_left _ z)) (h p), I.hok, I.len⟩
theorem nodup_ix {N : List Str} (hN : N.Nodup) {i j : Nat} {x : Str} (a : N[i]? = some x) (b : N[j]? = some x) : i = j := by
  obtain ⟨h1, e1⟩ := List.getElem?_eq_some_iff.mp a
  obtain ⟨h2, e2⟩ := List.getElem?_eq_some_iff.mp b
  exact (List.getElem_inj hN).mp (e1.trans e2.symm)
theorem store_ok2 {M : Model} {A : Around} {E : Value → Shared → Prop} {i : Nat} {x : Str} {v : V} {u : Value} {Q : Unit → Shared → Prop} (I : Inv X pins σ H s) (hN : X.N.Nodup) (hi : X.N[i]? = some x) (hx : Loc X.env.scope x) (r : RelV v u)
    (h : ∀ s', Inv X pins (σ.set i (some v)) H s' → (∃ a, Heap.SameBut a s.heap s'.heap ∧ (a = X.env.locals ∨ X.env.cells.lookup x = some a)) → Q () s') (hf : X.fn x = true ∨ X.env.scope.names.lookup x = some .local := by first | exact .inl rfl | exact .inr rfl | assumption) : wpAny M A (storeName X.env x u) Q E s := by
  obtain ⟨m, hn, hl⟩ := id I.loc
  have hcls : (X.env.scope.kind == .class || (X.env.scope.kind == .module && X.env.locals != X.env.globals)) = false := by rw [I.ok.kind]; rfl
  have hiσ : i < σ.length := by rw [I.len]; exact (List.getElem?_eq_some_iff.mp hi).1
  have cne := I.cne
  have tracked : ∀ {a : Addr} {h' : Heap}, (∃ o, s.heap.get? a = some o ∧ H a = none) → Heap.SameBut a s.heap h' → HOk X.prog X.w H h' := fun {a h'} ha hs b ob e => by
    obtain ⟨_, _, hfree⟩ := ha
    refine (I.hok b ob e).stay (fun c w' hc q => (hs.2 c ?_).trans q) (fun _ q => q) fun _ _ q => q
    rintro rfl
    rcases hc with rfl | hc
    · rw [hfree] at e; cases e
    · rw [hfree] at hc; cases hc
  rcases hx with hk | hk
  · refine wpAny_storeName_local hk hn (fun h' hn' hs => ?_) hcls
    obtain ⟨oL, _, _, hoL, _⟩ := id hn
    refine h _ ⟨I.ok, I.os, I.bare, ⟨fun b o e n hb hx => ?_, fun b o e n hb hx => ?_, I.base.free, fun b o e hx => ?_, I.base.tups, I.base.frzs, I.base.tbls⟩, ⟨_, hn', fun j y v' e1 e2 e3 => ?_⟩, fun y c e => ?_, I.free, I.freeC, fun p hp => ?_, tracked ⟨oL, hoL, I.free⟩ hs, by simpa using I.len⟩ ⟨_, hs, .inl rfl⟩
    · exact (hs.2 b (Nat.ne_of_lt (Nat.lt_of_lt_of_le (Heap.lt_size e) I.ok.above))).trans (I.base.keep b o e n hb hx)
    · obtain ⟨sl, e1⟩ := I.base.slot b o e n hb hx
      exact ⟨sl, (hs.2 b (Nat.ne_of_lt (Nat.lt_of_lt_of_le (Heap.lt_size e) I.ok.above))).trans e1⟩
    · obtain ⟨o', e1⟩ := I.base.there b o e hx
      exact ⟨o', (hs.2 b (Nat.ne_of_lt (Nat.lt_of_lt_of_le (Heap.lt_size e) I.ok.above))).trans e1⟩
    · by_cases hj : j = i
      · subst hj
        rw [hi] at e1; cases e1
        rw [List.getElem?_set_self hiσ] at e2
        cases e2
        exact ⟨u, r, .inl ⟨hk, by simp⟩⟩
      · rw [List.getElem?_set_ne (Ne.symm hj)] at e2
        obtain ⟨u', r', q⟩ := hl j y v' e1 e2 e3
        refine ⟨u', r', ?_⟩
        rcases q with ⟨k, e⟩ | ⟨k, c, e, z⟩
        · refine .inl ⟨k, ?_⟩
          have : y ≠ x := fun e => hj (nodup_ix hN e1 (e ▸ hi))
          simp [this, e]
        · exact .inr ⟨k, c, e, z.sameBut hs (cne y c e)⟩
    · obtain ⟨w', z⟩ := I.cell y c e
      exact ⟨w', z.sameBut hs (cne y c e)⟩
    · obtain ⟨e, n, ne, nf, d⟩ := I.pin p hp
      exact ⟨(hs.2 p.1 ne).trans e, n, ne, nf, d⟩
  · have hfn : X.fn x = true := by
      rcases hf with z | z
      · exact z
      · rw [z] at hk; cases hk
    obtain ⟨c, hc⟩ := I.ok.has x (.inl hk)
    obtain ⟨w', z⟩ := I.cell x c hc
    refine wpAny_storeName_cell I.ok.kind hk hc z (fun h' hc' hs => ?_)
    obtain ⟨oc, hoc, hocd⟩ := id z
    refine h { s with heap := h' } ⟨I.ok, I.os, I.bare, ⟨fun b o e n hb hx => ?_, fun b o e n hb hx => ?_, I.base.free, fun b o e hx => ?_, I.base.tups, I.base.frzs, I.base.tbls⟩, ⟨m, hn.sameBut hs (Ne.symm (cne x c hc)), fun j y v' e1 e2 e3 => ?_⟩, fun y c' e => ?_, I.free, I.freeC, fun p hp => ?_, tracked ⟨oc, hoc, I.freeC x c hc⟩ hs, by simpa using I.len⟩ ⟨c, hs, .inr hc⟩
    · exact (hs.2 b (Nat.ne_of_lt (Nat.lt_of_lt_of_le (Heap.lt_size e) (I.ok.cab x c hfn hc)))).trans (I.base.keep b o e n hb hx)
    · obtain ⟨sl, e1⟩ := I.base.slot b o e n hb hx
      exact ⟨sl, (hs.2 b (Nat.ne_of_lt (Nat.lt_of_lt_of_le (Heap.lt_size e) (I.ok.cab x c hfn hc)))).trans e1⟩
    · obtain ⟨o', e1⟩ := I.base.there b o e hx
      exact ⟨o', (hs.2 b (Nat.ne_of_lt (Nat.lt_of_lt_of_le (Heap.lt_size e) (I.ok.cab x c hfn hc)))).trans e1⟩
    · by_cases hj : j = i
      · subst hj
        rw [hi] at e1; cases e1
        rw [List.getElem?_set_self hiσ] at e2
        cases e2
        exact ⟨u, r, .inr ⟨.inl hk, c, hc, hc'⟩⟩
      · rw [List.getElem?_set_ne (Ne.symm hj)] at e2
        obtain ⟨u', r', q⟩ := hl j y v' e1 e2 e3
        refine ⟨u', r', ?_⟩
        rcases q with q | ⟨k, c', e, z'⟩
        · exact .inl q
        · refine .inr ⟨k, c', e, z'.sameBut hs ?_⟩
          rintro rfl
          exact hj (nodup_ix hN e1 (I.ok.inj _ _ _ e hc ▸ hi))
    · by_cases hcc : c' = c
      · subst hcc; exact ⟨_, hc'⟩
      · obtain ⟨w2, z2⟩ := I.cell y c' e
        exact ⟨w2, z2.sameBut hs hcc⟩
    · obtain ⟨e, n, ne, nf, d⟩ := I.pin p hp
      refine ⟨(hs.2 p.1 ?_).trans e, n, ne, nf, d⟩
      intro q
      rw [q, hoc] at e
      have q' : oc = p.2 := Option.some.inj e
      exact d w' (by rw [← q']; exact hocd)
theorem store_ok {M : Model} {A : Around} {E : Value → Shared → Prop} {i : Nat} {x : Str} {v : V} {u : Value} {Q : Unit → Shared → Prop} (I : Inv X pins σ H s) (hN : X.N.Nodup) (hi : X.N[i]? = some x) (hx : Loc X.env.scope x) (r : RelV v u)
    (h : ∀ s', Inv X pins (σ.set i (some v)) H s' → Q () s') (hf : X.fn x = true ∨ X.env.scope.names.lookup x = some .local := by first | exact .inl rfl | exact .inr rfl | assumption) : wpAny M A (storeName X.env x u) Q E s :=
  store_ok2 I hN hi hx r (fun s' I' _ => h s' I') hf
theorem Inv.call' {s' : Shared} {ch : List Addr} (I : Inv X pins σ H s) (ho : s'.os = s.os) (u : Un (frs X.stack) ch H H' s.heap s'.heap) (hok : HOk X.prog X.w H' s'.heap) (hg : AllBare s'.gens)
    (hch : ∀ b ∈ ch, (b ∈ X.ex ∨ X.s₀.heap.objs.size ≤ b) ∧ b ≠ X.env.locals ∧ (∀ x c, X.env.cells.lookup x = some c → c ≠ b) ∧ ∀ p ∈ X.pn ++ pins, p.1 ≠ b) : Inv X pins σ H' s' := by
  obtain ⟨h', g', d', t', o'⟩ := s'
  have e : o' = s.os := ho
  subst e
  exact I.call (g' := g') (t' := t') (d' := d') u hok hg hch
end
abbrev XK := Value → Option Addr → Hp → Prop
abbrev St := List (Option V)
abbrev VK := V → Hp → Prop
abbrev TE := St → Hp → VK → Prop
abbrev TT := St → Hp → (Bool → Hp → Prop) → Prop
abbrev TA := St → Hp → (List V → Hp → Prop) → Prop
structure Ends where
  nx : St → Hp → Prop
  rt : VK
  bk : St → Hp → Prop := fun _ _ => False
  ct : St → Hp → Prop := fun _ _ => False
abbrev TS := Ends → St → Hp → Prop
def EP (X : Cx) (pins : List (Addr × Obj)) (σ : St) (Q : VK) (u : Value) (s' : Shared) : Prop := ∃ v H', Inv X pins σ H' s' ∧ RelV v u ∧ Q v H'
def TP (X : Cx) (pins : List (Addr × Obj)) (σ : St) (Q : Bool → Hp → Prop) (b : Bool) (s' : Shared) : Prop := ∃ H', Inv X pins σ H' s' ∧ Q b H'
def AP (X : Cx) (pins : List (Addr × Obj)) (σ : St) (Q : List V → Hp → Prop) (us : List Value) (s' : Shared) : Prop := ∃ vs H', Inv X pins σ H' s' ∧ Vals vs us ∧ Q vs H'
def SP (X : Cx) (pins : List (Addr × Obj)) (D : Ends) (f : Flow) (s' : Shared) : Prop :=
  match f with
  | .next => ∃ σ' H', Inv X pins σ' H' s' ∧ D.nx σ' H'
  | .brk => ∃ σ' H', Inv X pins σ' H' s' ∧ D.bk σ' H'
  | .cont => ∃ σ' H', Inv X pins σ' H' s' ∧ D.ct σ' H'
  | .ret u => ∃ v σ' H', Inv X pins σ' H' s' ∧ RelV v u ∧ D.rt v H'
def PE (X : Cx) (e : Expr) (t : TE) : Prop :=
  ∀ (pins : List (Addr × Obj)) (s : Shared) (σ : St) (H : Hp) (Q : VK), Inv X pins σ H s → t σ H Q → wpAny (model X.prog X.w) X.A (eval e X.env) (EP X pins σ Q) X.xe s
def PT (X : Cx) (e : Expr) (t : TT) : Prop :=
  ∀ (pins : List (Addr × Obj)) (s : Shared) (σ : St) (H : Hp) (Q : Bool → Hp → Prop), Inv X pins σ H s → t σ H Q → wpAny (model X.prog X.w) X.A (isTrue e X.env (eval e X.env)) (TP X pins σ Q) X.xe s
def PW (X : Cx) (e : Expr) (t : TT) : Prop :=
  ∀ (whole : Sem Value) (pins : List (Addr × Obj)) (s : Shared) (σ : St) (H : Hp) (Q : Bool → Hp → Prop), Inv X pins σ H s → t σ H Q → wpAny (model X.prog X.w) X.A (isTrue e X.env whole) (TP X pins σ Q) X.xe s
theorem PW.pt {X : Cx} {e : Expr} {t : TT} (h : PW X e t) : PT X e t := h _
def PA (X : Cx) (es : List Expr) (t : TA) : Prop :=
  ∀ (pos : Pos) (pins : List (Addr × Obj)) (s : Shared) (σ : St) (H : Hp) (Q : List V → Hp → Prop), Inv X pins σ H s → t σ H Q → wpAny (model X.prog X.w) X.A (spliced (backTo pos (starEach es X.env))) (AP X pins σ Q) X.xe s
def PS (X : Cx) (st : Stmt) (t : TS) : Prop :=
  ∀ (pins : List (Addr × Obj)) (s : Shared) (σ : St) (H : Hp) (D : Ends), Inv X pins σ H s → t D σ H → wpAny (model X.prog X.w) X.A (exec st X.env) (SP X pins D) X.xe s
def PSs (X : Cx) (st : List Stmt) (t : TS) : Prop :=
  ∀ (pins : List (Addr × Obj)) (s : Shared) (σ : St) (H : Hp) (D : Ends), Inv X pins σ H s → t D σ H → wpAny (model X.prog X.w) X.A (execs st X.env) (SP X pins D) X.xe s
theorem thn {α : Type} {t : Sem α} {Q Q' : α → Shared → Prop} {M : Model} {A : Around} {E : Value → Shared → Prop} {s : Shared} (h : wpAny M A t Q E s) (hQ : ∀ a s, Q a s → Q' a s) : wpAny M A t Q' E s := wpAny_mono h hQ fun _ _ x => x
end L2
namespace L2
open PySem PySem.Spec PyProof.Rows
section
variable {X : Cx}
def tVar (i : Nat) : TE := fun σ H Q => ∃ v, σ[i]? = some (some v) ∧ Q v H
def tC (v : V) : TE := fun _ H Q => Q v H
theorem pe_var {i : Nat} {x : Str} {pos : Pos} (hN : X.N[i]? = some x) (hv : Vis X.env.scope x) (hd : (x == ("__debug__" : Str)) = false := by decide) (hcd : (x == ("__classdict__" : Str)) = false := by decide) : PE X (.Name x pos) (tVar i) := by
  intro pins s σ H Q I h
  obtain ⟨v, e, h⟩ := h
  obtain ⟨m, hn, hl⟩ := I.loc
  obtain ⟨u, r, l⟩ := hl i x v hN e hv
  have fin : EP X pins σ Q u s := ⟨v, H, I, r, h⟩
  rcases l with ⟨hk, hm⟩ | ⟨hk, c, hc, hcell⟩
  · exact wpAny_Name (wpAny_loadName_local I.ok.kind hk hn hm fin) hd
  · rcases hk with hk | hk
    · exact wpAny_Name (wpAny_loadName_cell I.ok.kind hk hc hcell fin) hd
    · exact wpAny_Name (wpAny_loadName_free I.ok.kind hk hc hcell fin hcd) hd
theorem pe_int {i j pos} : PE X (.Constant (.int i) j pos) (tC (.int i)) := fun _ _ _ H _ I h => wpAny_Constant_int ⟨.int i, H, I.tok _, ⟨_, rfl⟩, h⟩
theorem pe_bl {b j pos} : PE X (.Constant (.bool b) j pos) (tC (.bl b)) := fun _ _ _ H _ I h => Constant_bool ⟨.bl b, H, I, rfl, h⟩
theorem pe_non {j pos} : PE X (.Constant .none j pos) (tC .non) := fun _ _ _ H _ I h => Constant_none ⟨.non, H, I, rfl, h⟩
def Gl (X : Cx) (x : Str) : Prop := X.env.kindOf x = some .globalImplicit
theorem ld_glob {E : Value → Shared → Prop} {pins : List (Addr × Obj)} {s : Shared} {σ : St} {H : Hp} {x : Str} {u : Value} {pos : Pos} {Q : Value → Shared → Prop} (I : Inv X pins σ H s) (hg : Gl X x) (hm : X.mg x = some u) (h : Q u s)
    (hd : (x == ("__debug__" : Str)) = false := by decide) : wpAny (model X.prog X.w) X.A (eval (.Name x pos) X.env) Q E s :=
  Calls.Name_function_global I.ok.kind hg (Calls.loadGlobal_global (by rw [I.ok.glob]; exact I.mod.glob.keeps I.bk) hm h) hd
theorem ld_blt {E : Value → Shared → Prop} {pins : List (Addr × Obj)} {s : Shared} {σ : St} {H : Hp} {x : Str} {u : Value} {pos : Pos} {Q : Value → Shared → Prop} (I : Inv X pins σ H s) (hg : Gl X x) (hm : X.mg x = none) (hv : bootBuiltins x = some u) (h : Q u s)
    (hn : x ≠ "__name__" := by decide) (hd : (x == ("__debug__" : Str)) = false := by decide) : wpAny (model X.prog X.w) X.A (eval (.Name x pos) X.env) Q E s := by
  obtain ⟨mb, h1, h2⟩ := I.mod.blt
  exact Calls.Name_function_global I.ok.kind hg (Calls.loadGlobal_builtin (by rw [I.ok.glob]; exact I.mod.glob.keeps I.bk) hm (by rw [I.ok.blt]; exact h1.keeps I.bk) ((h2 x hn).trans hv) h) hd
theorem pe_bltn {x : Str} {v : V} {u : Value} {pos : Pos} (hg : Gl X x) (hm : X.mg x = none) (hv : bootBuiltins x = some u) (r : RelV v u) (hn : x ≠ "__name__" := by decide) (hd : (x == ("__debug__" : Str)) = false := by decide) : PE X (.Name x pos) (tC v) :=
  fun _ _ _ H _ I h => ld_blt I hg hm hv ⟨v, H, I, r, h⟩ hn hd
variable {a b : Expr} {ta tb : TE} {pos : Pos}
def PC (X : Cx) (op : CmpOp) (a b : Expr) (t : TE) : Prop :=
  ∀ (pins : List (Addr × Obj)) (s : Shared) (σ : St) (H : Hp) (Q : VK), Inv X pins σ H s → t σ H Q →
    wpAny (model X.prog X.w) X.A (eval a X.env) (fun v s₁ => wpAny (model X.prog X.w) X.A (eval b X.env) (fun u s₂ => wpAny (model X.prog X.w) X.A (compareOp op v u) (EP X pins σ Q) X.xe s₂) X.xe s₁) X.xe s
theorem nobehind (b : Expr) {op : CmpOp} (h : op ≠ .In) (h2 : op ≠ .NotIn) : behindInMarks op b = false := by
  have e1 : (op == CmpOp.In) = false := by cases op <;> first | rfl | exact absurd rfl h
  have e2 : (op == CmpOp.NotIn) = false := by cases op <;> first | rfl | exact absurd rfl h2
  cases b <;> simp [behindInMarks, e1, e2]
def tB (t : TE) : TT := fun σ H Q => t σ H fun x H1 => ∃ c, x = .bl c ∧ Q c H1
theorem pe_cmp {op : CmpOp} {t : TE} (h : PC X op a b t) (h1 : behindInMarks op b = false := by first | exact nobehind _ (by decide) (by decide) | rfl) : PE X (.Compare a [op] [b] pos) t := fun pins s σ H Q I hw => wpAny_Compare1 (h pins s σ H Q I hw) h1
theorem pt_cmp {op : CmpOp} {t : TE} (h : PC X op a b t) (h1 : behindInMarks op b = false := by first | exact nobehind _ (by decide) (by decide) | rfl) : PT X (.Compare a [op] [b] pos) (tB t) := by
  intro pins s σ H Q I hw
  refine wpAny_isTrue_Compare1 (thn (h pins s σ H _ I hw) fun v s1 h1 => thn h1 fun u s2 h2 => thn h2 fun c s3 ⟨x, H1, I1, r1, q1⟩ => ?_) h1
  obtain ⟨d, rfl, q⟩ := q1
  cases r1
  exact wpAny_truthy_bool ⟨H1, I1, q⟩
theorem pt_val {e : Expr} {t : TE} (h : PE X e t) (he : ∀ whole, isTrue e X.env whole = (do let v ← whole; standAt e.pos; holding [v] (truthy v)) := by intro _; rfl) : PT X e (tB t) := by
  intro pins s σ H Q I hw
  refine isTrue_plain (thn (h pins s σ H _ I hw) fun v s1 ⟨x, H1, I1, r1, q1⟩ => ?_) (he _)
  obtain ⟨d, rfl, q⟩ := q1
  cases r1
  exact wpAny_truthy_bool ⟨H1, I1, q⟩
variable {tA tB' : TT} {rest : List Expr}
def tAnd (t u : TT) : TT := fun σ H Q => t σ H fun c H1 => if c = true then u σ H1 Q else Q false H1
def tOr (t u : TT) : TT := fun σ H Q => t σ H fun c H1 => if c = true then Q true H1 else u σ H1 Q
def tNot (t : TT) : TT := fun σ H Q => t σ H fun c H1 => Q (!c) H1
theorem pw_and1 (ha : PT X a tA) : PW X (.BoolOp .And [a] pos) tA := by
  intro wh pins s σ H Q I h
  refine isTrue_and (thn (ha pins s σ H Q I h) fun c s1 e => ?_)
  cases c with
  | true => exact isTrue_and_nil e
  | false => exact e
theorem pw_or1 (ha : PT X a tA) : PW X (.BoolOp .Or [a] pos) tA := by
  intro wh pins s σ H Q I h
  refine isTrue_or (thn (ha pins s σ H Q I h) fun c s1 e => ?_)
  cases c with
  | false => exact isTrue_or_nil e
  | true => exact e
theorem pw_and (ha : PT X a tA) (hb : PW X (.BoolOp .And (b :: rest) pos) tB') : PW X (.BoolOp .And (a :: b :: rest) pos) (tAnd tA tB') := by
  intro wh pins s σ H Q I h
  refine isTrue_and (thn (ha pins s σ H _ I h) fun c s1 ⟨H1, I1, q1⟩ => ?_)
  cases c with
  | true => exact hb wh pins s1 σ H1 Q I1 q1
  | false => exact ⟨H1, I1, q1⟩
theorem pw_or (ha : PT X a tA) (hb : PW X (.BoolOp .Or (b :: rest) pos) tB') : PW X (.BoolOp .Or (a :: b :: rest) pos) (tOr tA tB') := by
  intro wh pins s σ H Q I h
  refine isTrue_or (thn (ha pins s σ H _ I h) fun c s1 ⟨H1, I1, q1⟩ => ?_)
  cases c with
  | true => exact ⟨H1, I1, q1⟩
  | false => exact hb wh pins s1 σ H1 Q I1 q1
theorem pt_not (ha : PT X a tA) : PT X (.UnaryOp .Not a pos) (tNot tA) := by
  intro pins s σ H Q I h
  exact isTrue_not (ha pins s σ H (fun c H1 => Q (!c) H1) I h)
def tIf (t : TT) (ta tb : TE) : TE := fun σ H Q => t σ H fun c H1 => if c = true then ta σ H1 Q else tb σ H1 Q
theorem pe_ifExp {c : Expr} (hc : PT X c tA) (ha : PE X a ta) (hb : PE X b tb) : PE X (.IfExp c a b pos) (tIf tA ta tb) := by
  intro pins s σ H Q I h
  refine wpAny_IfExp (thn (hc pins s σ H _ I h) fun d s1 ⟨H1, I1, q1⟩ => ?_)
  cases d with
  | true => exact ha pins s1 σ H1 Q I1 q1
  | false => exact hb pins s1 σ H1 Q I1 q1
end
end L2
namespace L2
open PySem PySem.Spec PyProof.Rows
def SqL (K : PySem.W.Frag) (H : Hp) (a : Addr) (xs : List V) : Prop :=
  Rd H a (.lst xs) ∨
    ∃ (o : Obj) (its : Array Value) (n : Nat), K.lookup a = some o ∧ o.cls = .type "list" ∧ o.dict = none ∧ o.data = .seq its n ∧ its.size ≤ sizeLine ∧ Vals xs its.toList
def SqT (K : PySem.W.Frag) (H : Hp) (a : Addr) (xs : List V) : Prop :=
  Rd H a (.tup xs) ∨
    ∃ (o : Obj) (its : Array Value) (n : Nat), K.lookup a = some o ∧ o.cls = .type "tuple" ∧ o.data = .seq its n ∧ its.size ≤ sizeLine ∧ Vals xs its.toList
def absV : Value → Option V
  | .none => some .non
  | .bool b => some (.bl b)
  | .int i _ => some (.int i)
  | .str x _ => some (.str x)
  | .bytes b _ => some (.byt b)
  | .float b _ => some (.flt b)
  | .ref a => some (.ref a)
  | .type n => some (.ty n)
  | _ => none
theorem RelV.abs {x : V} {u : Value} (r : RelV x u) : absV u = some x := by
  cases x with
  | non => cases r; rfl
  | bl _ => cases r; rfl
  | int _ => obtain ⟨t, rfl⟩ := r; rfl
  | str _ => obtain ⟨t, rfl⟩ := r; rfl
  | byt _ => obtain ⟨t, rfl⟩ := r; rfl
  | flt _ => obtain ⟨t, rfl⟩ := r; rfl
  | ref _ => cases r; rfl
  | ty _ => cases r; rfl
theorem RelV.inj {x y : V} {u : Value} (r : RelV x u) (q : RelV y u) : x = y := Option.some.inj (r.abs.symm.trans q.abs)
theorem Vals.inj : ∀ {xs ys : List V} {us : List Value}, Vals xs us → Vals ys us → xs = ys
  | _, _, _, .nil, .nil => rfl
  | _, _, _, .cons r t, .cons r' t' => by rw [r.inj r', Vals.inj t t']
section
variable {X : Cx} {pins : List (Addr × Obj)} {σ : St} {H : Hp} {s : Shared} {a : Addr} {xs ys : List V}
theorem SqL.of {K : PySem.W.Frag} (h : H a = some (.lst xs)) : SqL K H a xs := .inl (.inl h)
theorem SqT.of {K : PySem.W.Frag} (h : H a = some (.tup xs)) : SqT K H a xs := .inl (.inl h)
theorem Inv.list (I : Inv X pins σ H s) (h : SqL X.K H a xs) : ∃ its : List Value, Vals xs its ∧ PlainL s.heap a its.toArray ∧ xs.length ≤ sizeLine := by
  rcases h with h | ⟨o, its, n, hk, hc, hd, hs, hz, r⟩
  · obtain ⟨z, its, n, r, e⟩ := h.ok I.hok
    exact ⟨its, r, ⟨_, n, e, rfl, rfl, rfl⟩, z⟩
  · refine ⟨its.toList, r, ⟨o, n, I.kIn a o hk, hc, hd, by simpa using hs⟩, ?_⟩
    have e := r.length
    simp only [Array.length_toList] at e
    omega
theorem Inv.tuple (I : Inv X pins σ H s) (h : SqT X.K H a xs) : ∃ its : List Value, Vals xs its ∧ IsTup s.heap a its.toArray ∧ xs.length ≤ sizeLine := by
  rcases h with h | ⟨o, its, n, hk, hc, hs, hz, r⟩
  · obtain ⟨z, its, r, p⟩ := h.ok I.hok
    exact ⟨its, r, p, z⟩
  · refine ⟨its.toList, r, ⟨o, I.kIn a o hk, hc, n, by simpa using hs⟩, ?_⟩
    have e := r.length
    simp only [Array.length_toList] at e
    omega
theorem Inv.list_inj (I : Inv X pins σ H s) (h : SqL X.K H a xs) (h' : SqL X.K H a ys) : xs = ys := by
  obtain ⟨its, r, ⟨o, n, e, _, _, d⟩, _⟩ := I.list h
  obtain ⟨its', r', ⟨o', n', e', _, _, d'⟩, _⟩ := I.list h'
  rw [e] at e'; cases e'
  rw [d] at d'
  injection d' with d1 _
  have : its = its' := by simpa using congrArg Array.toList d1
  subst this
  exact r.inj r'
theorem Inv.tuple_inj (I : Inv X pins σ H s) (h : SqT X.K H a xs) (h' : SqT X.K H a ys) : xs = ys := by
  obtain ⟨its, r, ⟨o, e, _, n, d⟩, _⟩ := I.tuple h
  obtain ⟨its', r', ⟨o', e', _, n', d'⟩, _⟩ := I.tuple h'
  rw [e] at e'; cases e'
  rw [d] at d'
  injection d' with d1 _
  have : its = its' := by simpa using congrArg Array.toList d1
  subst this
  exact r.inj r'
end
abbrev Cx.wish (X : Cx) (E : Value → Shared → Prop) : Cx := { X with xe := E }
abbrev Cx.nox (X : Cx) : Cx := X.wish fun _ _ => False
theorem Cx.Ok.wish {X : Cx} (ok : X.Ok) (E : Value → Shared → Prop) : (X.wish E).Ok :=
  ⟨ok.mod, ok.kind, ok.glob, ok.blt, ok.above, ok.inj, ok.has, ok.cab, ok.hd, ok.frames, ok.stk, ok.exf, ok.bs, ok.bsz, ok.noex, ok.exfs, ok.funs, ok.frf⟩
theorem Cx.Ok.unwish {X : Cx} {E : Value → Shared → Prop} (ok : (X.wish E).Ok) : X.Ok :=
  ⟨ok.mod, ok.kind, ok.glob, ok.blt, ok.above, ok.inj, ok.has, ok.cab, ok.hd, ok.frames, ok.stk, ok.exf, ok.bs, ok.bsz, ok.noex, ok.exfs, ok.funs, ok.frf⟩
section
variable {X : Cx} {pins : List (Addr × Obj)} {σ : St} {H : Hp} {s : Shared} {E : Value → Shared → Prop}
theorem Inv.wish (I : Inv X pins σ H s) (E : Value → Shared → Prop) : Inv (X.wish E) pins σ H s := ⟨I.ok.wish E, I.os, I.bare, I.base, I.loc, I.cell, I.free, I.freeC, I.pin, I.hok, I.len⟩
theorem Inv.unwish (I : Inv (X.wish E) pins σ H s) : Inv X pins σ H s := ⟨I.ok.unwish, I.os, I.bare, I.base, I.loc, I.cell, I.free, I.freeC, I.pin, I.hok, I.len⟩
theorem SP.unwish {D : Ends} {f : Flow} {s' : Shared} (h : SP (X.wish E) pins D f s') : SP X pins D f s' := by
  cases f with
  | next => obtain ⟨σ', H', I, q⟩ := h; exact ⟨σ', H', I.unwish, q⟩
  | brk => obtain ⟨σ', H', I, q⟩ := h; exact ⟨σ', H', I.unwish, q⟩
  | cont => obtain ⟨σ', H', I, q⟩ := h; exact ⟨σ', H', I.unwish, q⟩
  | ret u => obtain ⟨v, σ', H', I, r, q⟩ := h; exact ⟨v, σ', H', I.unwish, r, q⟩
theorem PE.nox {e : Expr} {t : TE} (h : PE X.nox e t) : PE X e t := fun pins s σ H Q I hw =>
  wpAny_mono (h pins s σ H Q (I.wish _) hw) (fun _ _ ⟨v, H', I', r, q⟩ => ⟨v, H', I'.unwish, r, q⟩) fun _ _ z => False.elim z
theorem PT.nox {e : Expr} {t : TT} (h : PT X.nox e t) : PT X e t := fun pins s σ H Q I hw =>
  wpAny_mono (h pins s σ H Q (I.wish _) hw) (fun _ _ ⟨H', I', q⟩ => ⟨H', I'.unwish, q⟩) fun _ _ z => False.elim z
theorem PSs.nox {st : List Stmt} {t : TS} (h : PSs X.nox st t) : PSs X st t := fun pins s σ H D I hw =>
  wpAny_mono (h pins s σ H D (I.wish _) hw) (fun _ _ q => q.unwish) fun _ _ z => False.elim z
end
section
variable {X : Cx} {st : Stmt} {rest : List Stmt} {t u : TS} {e : Expr} {te : TE} {pos : Pos}
def tNext : TS := fun D σ H => D.nx σ H
def tSeq (t u : TS) : TS := fun D σ H => t { D with nx := u D } σ H
theorem pss_nil : PSs X [] tNext := fun _ _ σ H _ I h => wpAny_execs_nil ⟨σ, H, I, h⟩
theorem pss_cons (h1 : PS X st t) (h2 : PSs X rest u) : PSs X (st :: rest) (tSeq t u) := by
  intro pins s σ H D I h
  refine wpAny_execs_cons (thn (h1 pins s σ H { D with nx := u D } I h) fun f s1 q => ?_)
  cases f with
  | next =>
    obtain ⟨σ', H', I', q⟩ := q
    exact h2 pins s1 σ' H' D I' q
  | ret v => exact q
  | brk => exact q
  | cont => exact q
theorem pss_one (h1 : PS X st t) : PSs X [st] t := by
  intro pins s σ H D I h
  refine wpAny_execs_cons (thn (h1 pins s σ H D I h) fun f s1 q => ?_)
  cases f with
  | next => exact wpAny_execs_nil q
  | ret v => exact q
  | brk => exact q
  | cont => exact q
theorem Inv.quiet {pins : List (Addr × Obj)} {σ : St} {H : Hp} {s : Shared} (I : Inv X pins σ H s) : interactive X.env = false := by simp [interactive, I.ok.kind]
def tDrop (te : TE) : TS := fun D σ H => te σ H fun _ H1 => D.nx σ H1
theorem ps_expr (he : PE X e te) (hs : swapsWith e none pos.line X.env = pure false := by rfl) : PS X (.Expr e pos) (tDrop te) := by
  intro pins s σ H D I h
  exact wpAny_Expr_any (thn (he pins s σ H _ I h) fun v s1 ⟨x, H1, I1, r1, q1⟩ => ⟨σ, H1, I1, q1⟩) I.quiet hs
def tRet (te : TE) : TS := fun D σ H => te σ H D.rt
theorem ps_ret (he : PE X e te) : PS X (.Return (some e) pos) (tRet te) := by
  intro pins s σ H D I h
  exact wpAny_Return_some (thn (he pins s σ H _ I h) fun v s1 ⟨x, H1, I1, r1, q1⟩ => ⟨x, σ, H1, I1, r1, q1⟩)
def tIfS (c : TT) (t u : TS) : TS := fun D σ H => c σ H fun b H1 => if b = true then t D σ H1 else u D σ H1
theorem ps_if {c : Expr} {a b : List Stmt} {tc : TT} (hc : PT X c tc) (ha : PSs X a t) (hb : PSs X b u) : PS X (.If c a b pos) (tIfS tc t u) := by
  intro pins s σ H D I h
  refine wpAny_If (thn (hc pins s σ H _ I h) fun d s1 ⟨H1, I1, q1⟩ => ?_)
  cases d with
  | true => exact ha pins s1 σ H1 D I1 q1
  | false => exact hb pins s1 σ H1 D I1 q1
end
abbrev TG := V → St → Hp → (St → Hp → Prop) → Prop
abbrev TGs := List V → St → Hp → (St → Hp → Prop) → Prop
def PG (X : Cx) (target : Expr) (t : TG) : Prop :=
  ∀ (pins : List (Addr × Obj)) (s : Shared) (σ : St) (H : Hp) (v : V) (u : Value) (Q : St → Hp → Prop), Inv X pins σ H s → RelV v u → t v σ H Q →
    wpAny (model X.prog X.w) X.A (assign target X.env u) (fun _ s' => ∃ σ' H', Inv X pins σ' H' s' ∧ Q σ' H') X.xe s
def PGs (X : Cx) (ts : List Expr) (t : TGs) : Prop :=
  ∀ (pins : List (Addr × Obj)) (s : Shared) (σ : St) (H : Hp) (vs : List V) (us : List Value) (Q : St → Hp → Prop), Inv X pins σ H s → Vals vs us → t vs σ H Q →
    wpAny (model X.prog X.w) X.A (assignInOrder ((assignEach ts X.env).map (·.2)) us) (fun _ s' => ∃ σ' H', Inv X pins σ' H' s' ∧ Q σ' H') X.xe s
abbrev TSet := V → V → V → Hp → (Hp → Prop) → Prop
def PSet (X : Cx) (t : TSet) : Prop :=
  ∀ (pins : List (Addr × Obj)) (s : Shared) (σ : St) (H : Hp) (o i v : V) (ov iv u : Value) (Q : Hp → Prop), Inv X pins σ H s → RelV o ov → RelV i iv → RelV v u → t o i v H Q →
    wpAny (model X.prog X.w) X.A (setItem ov iv u) (fun _ s' => ∃ H', Inv X pins σ H' s' ∧ Q H') X.xe s
section
variable {X : Cx} {pos : Pos}
def gName (i : Nat) : TG := fun v σ H Q => Q (σ.set i (some v)) H
theorem pg_name {i : Nat} {x : Str} (hN : X.N.Nodup) (hi : X.N[i]? = some x) (hx : Loc X.env.scope x) (hf : X.fn x = true ∨ X.env.scope.names.lookup x = some .local := by first | exact .inl rfl | exact .inr rfl | assumption) : PG X (.Name x pos) (gName i) := by
  intro pins s σ H v u Q I r h
  exact wpAny_assign_Name (store_ok I hN hi hx r (fun s' I' => ⟨_, H, I', h⟩) hf)
def gNil : TGs := fun vs σ H Q => vs = [] ∧ Q σ H
def gCons (t : TG) (u : TGs) : TGs := fun vs σ H Q => ∃ v r, vs = v :: r ∧ t v σ H fun σ' H' => u r σ' H' Q
theorem pgs_nil : PGs X [] gNil := by
  intro pins s σ H vs us Q I r h
  obtain ⟨e, h⟩ := h
  subst e
  cases r
  exact assignInOrder_nil ⟨σ, H, I, h⟩
theorem pgs_cons {e : Expr} {es : List Expr} {t : TG} {u : TGs} (h1 : PG X e t) (h2 : PGs X es u)
    (hs : (assignEach (e :: es) X.env).map (·.2) = assign e X.env :: (assignEach es X.env).map (·.2) := by rfl) : PGs X (e :: es) (gCons t u) := by
  intro pins s σ H vs us Q I r h
  obtain ⟨v, vr, e1, h⟩ := h
  subst e1
  cases r with
  | cons r rr =>
    rw [hs]
    refine assignInOrder_cons (thn (h1 pins s σ H _ _ _ I r h) fun _ s1 ⟨σ1, H1, I1, q1⟩ => ?_)
    exact h2 pins s1 σ1 H1 _ _ Q I1 rr q1
def gTup (K : PySem.W.Frag) (n : Nat) (t : TGs) : TG := fun v σ H Q => ∃ a xs, v = .ref a ∧ SqT K H a xs ∧ xs.length = n ∧ t xs σ H Q
theorem pg_tup {es : List Expr} {k : Nat} {t : TGs} {n : Nat} (hc : X.calm = true) (h : PGs X es t)
    (hn : (assignEach es X.env).length = n := by rfl) (hst : (assignEach es X.env).findIdx? (·.1) = none := by rfl) : PG X (.Tuple es k pos) (gTup X.K n t) := by
  intro pins s σ H v u Q I r hw
  obtain ⟨a, xs, e1, hq, hl, hw⟩ := hw
  subst e1
  cases r
  obtain ⟨its, rv, ht, hz⟩ := I.tuple hq
  refine assign_Tuple_tuple (I.ok.hd hc) ht (by simp [hn, ← hl, rv.length]) hst fun h' hx => ?_
  have I1 : Inv X pins σ H { s with heap := h' } := I.kept (t' := s.toks) fun b o e => hx b o (Nat.ne_of_lt (Heap.lt_size e)) e
  exact h pins _ σ H xs _ Q I1 (by simpa using rv) hw
def gSub (to ti : TE) (t : TSet) : TG := fun v σ H Q => to σ H fun o H1 => ti σ H1 fun i H2 => t o i v H2 fun H3 => Q σ H3
theorem pg_sub {o i : Expr} {to ti : TE} {t : TSet} (ho : PE X o to) (hi : PE X i ti) (hs : PSet X t)
    (ha : ∀ v, assign (.Subscript o i pos) X.env v = (do
      let ov ← holding [v] (eval o X.env)
      let iv ← holding [v, ov] (eval i X.env)
      standAt pos
      holding [v, ov, iv] (setItem ov iv v)
      release [v, ov, iv] []) := by intro _; rfl) : PG X (.Subscript o i pos) (gSub to ti t) := by
  intro pins s σ H v u Q I r h
  rw [ha]
  refine wpAny_bind (wpAny_holding (thn (ho pins s σ H _ I h) fun ov s1 ⟨x, H1, I1, r1, q1⟩ => ?_))
  refine wpAny_bind (wpAny_holding (thn (hi pins s1 σ H1 _ I1 q1) fun iv s2 ⟨y, H2, I2, r2, q2⟩ => ?_))
  refine wpAny_bind (wpAny_standAt (wpAny_bind (wpAny_holding (thn (hs pins s2 σ H2 x y v ov iv u _ I2 r1 r2 r q2) fun _ s3 ⟨H3, I3, q3⟩ => ?_))))
  exact wpAny_release ⟨σ, H3, I3, q3⟩
def tAsg (te : TE) (g : TG) : TS := fun D σ H => te σ H fun x H1 => g x σ H1 D.nx
theorem ps_asg {tg e : Expr} {te : TE} {g : TG} (he : PE X e te) (hg : PG X tg g) (hs : swapsWithSole [tg] e pos.line X.env = pure false := by rfl) (hw : swappedStores [tg] e X.env = pure none := by rfl)
    (h1 : (assignEach [tg] X.env).map (·.2) = [assign tg X.env] := by rfl) : PS X (.Assign [tg] e pos) (tAsg te g) := by
  intro pins s σ H D I h
  refine wpAny_Assign_stores (thn (he pins s σ H _ I h) fun v s1 ⟨x, H1, I1, r1, q1⟩ => ?_) hs hw
  rw [h1]
  exact thn (hg pins s1 σ H1 x v _ I1 r1 q1) fun _ s2 q => q
theorem ps_set {i : Nat} {x : Str} {e : Expr} {te : TE} {pos' : Pos} (hN : X.N.Nodup) (hi : X.N[i]? = some x) (hx : Loc X.env.scope x) (he : PE X e te) (hs : swapsWith e (some (.Name x pos')) pos.line X.env = pure false := by rfl) (hf : X.fn x = true ∨ X.env.scope.names.lookup x = some .local := by first | exact .inl rfl | exact .inr rfl | assumption) :
    PS X (.Assign [.Name x pos'] e pos) (tAsg te (gName i)) := by
  intro pins s σ H D I h
  refine wpAny_Assign_Name (thn (he pins s σ H _ I h) fun v s1 ⟨y, H1, I1, r1, q1⟩ => ?_) hs
  exact store_ok I1 hN hi hx r1 (fun s2 I2 => ⟨_, H1, I2, q1⟩) hf
end
section
variable {X : Cx} {pos : Pos}
def tWhile (c : TT) (tb : TS) : TS := fun D σ H => ∃ W : Nat → St → Hp → Prop, (∃ m, W m σ H) ∧ ∀ m σ H, W m σ H →
  c σ H fun b H1 => if b = true then ∃ N : St → Hp → Prop, (∀ σ' H', N σ' H' → ∃ m', m' < m ∧ W m' σ' H') ∧ tb { D with nx := N, ct := N, bk := D.nx } σ H1 else D.nx σ H1
theorem ps_while {c : Expr} {body : List Stmt} {tc : TT} {tb : TS} (hp : PassesOwn (model X.prog X.w) X.A X.env X.xe) (hc : PT X c tc) (hb : PSs X body tb) : PS X (.While c body [] pos) (tWhile tc tb) := by
  intro pins s σ H D I h
  obtain ⟨W, ⟨m0, w0⟩, turn⟩ := h
  refine wpAny_While (codeAny_whileLoop (fun n s' => ∃ σ' H', Inv X pins σ' H' s' ∧ W n σ' H') ?_ m0 ⟨σ, H, I, w0⟩)
  rintro n s1 ⟨σ1, H1, I1, w1⟩
  refine wpAny_passesOwn hp (thn (hc pins s1 σ1 H1 _ I1 (turn n σ1 H1 w1)) fun b s2 ⟨H2, I2, q2⟩ => ?_)
  cases b with
  | true =>
    obtain ⟨N, hN, q2⟩ := q2
    rw [if_pos rfl]
    refine wpAny_passesOwn hp (thn (hb pins s2 σ1 H2 _ I2 q2) fun f s3 q3 => ?_)
    cases f with
    | next =>
      obtain ⟨σ3, H3, I3, n3⟩ := q3
      obtain ⟨m', hm, w3⟩ := hN σ3 H3 n3
      exact ⟨m', hm, σ3, H3, I3, w3⟩
    | cont =>
      obtain ⟨σ3, H3, I3, n3⟩ := q3
      obtain ⟨m', hm, w3⟩ := hN σ3 H3 n3
      exact ⟨m', hm, σ3, H3, I3, w3⟩
    | brk => exact q3
    | ret v => exact q3
  | false =>
    rw [if_neg Bool.false_ne_true]
    exact wpAny_execs_nil ⟨σ1, H2, I2, q2⟩
end
structure It where
  go : Nat → Hp → Prop
  yld : Nat → Hp → V → Hp → Prop
  stop : Nat → Hp → Prop
def FpOk (X : Cx) (pins : List (Addr × Obj)) (H : Hp) (b : Addr) : Prop :=
  H b = none ∧ b ≠ X.env.locals ∧ b ∉ X.fs ∧ (b ∈ X.ex ∨ X.s₀.heap.objs.size ≤ b) ∧ (∀ x c, X.env.cells.lookup x = some c → c ≠ b) ∧ ∀ p ∈ X.pn ++ pins, p.1 ≠ b
theorem Inv.fpOk {X : Cx} {pins : List (Addr × Obj)} {σ : St} {H H' : Hp} {s : Shared} {b : Addr} (I : Inv X pins σ H s) (hb : s.heap.objs.size ≤ b) (hn : H' b = none) : FpOk X pins H' b := by
  refine ⟨hn, Nat.ne_of_gt (Nat.lt_of_lt_of_le I.lt hb), I.nofs hb, .inr (Nat.le_trans I.sz hb), fun x c e z => ?_, fun p hp z => ?_⟩
  · obtain ⟨v, q⟩ := I.cell x c e
    exact absurd (Nat.lt_of_lt_of_le q.lt (by rw [z]; exact hb)) (Nat.lt_irrefl _)
  · exact absurd (Nat.lt_of_lt_of_le (Heap.lt_size (I.pin p hp).1) (by rw [z]; exact hb)) (Nat.lt_irrefl _)
structure Turn (P : Program) (w : World) (K : PySem.W.Frag) (tg : Expr) (J : It) (fp : List Addr) (it : Addr) (tn : Nat → Heap → Prop) : Prop where
  mem : it ∈ fp
  obj : ∀ i h, tn i h → ∀ b ∈ fp, ∃ o, h.get? b = some o ∧ ∀ v, o.data ≠ .cell v
  keep : ∀ i h h', tn i h → (∀ b ∈ fp, ∀ o, h.get? b = some o → h'.get? b = some o) → tn i h'
  item : ∀ (X : Cx), X.prog = P → X.w = w → X.K = K → X.calm = true → ∀ (i : Nat) (pins : List (Addr × Obj)) (s : Shared) (σ : St) (H : Hp) (E : Value → Shared → Prop), Inv X pins σ H s → (∀ b ∈ fp, FpOk X pins H b) → tn i s.heap → J.go i H →
    wpAny (model P w) X.A (pyNext (.ref it)) (fun r s1 => ∃ u, r = some u ∧
      wpAny (model P w) X.A (letOwnedTupleGo tg (.ref it) u) (fun _ s2 => ∃ x H', Inv X pins σ H' s2 ∧ RelV x u ∧ J.yld i H x H' ∧ tn (i + 1) s2.heap ∧ ∀ b ∈ fp, H' b = none) E s1) E s
  done : ∀ (X : Cx), X.prog = P → X.w = w → X.K = K → X.calm = true → ∀ (i : Nat) (pins : List (Addr × Obj)) (s : Shared) (σ : St) (H : Hp) (E : Value → Shared → Prop), Inv X pins σ H s → (∀ b ∈ fp, FpOk X pins H b) → tn i s.heap → J.stop i H →
    wpAny (model P w) X.A (pyNext (.ref it)) (fun r s1 => r = none ∧ Inv X pins σ H s1) E s
  self : ∀ (A : Around) (i : Nat) (s : Shared) (Q : Value → Shared → Prop) (E : Value → Shared → Prop), tn i s.heap → Q (.ref it) s → wpAny (model P w) A (pyIter (.ref it)) Q E s
abbrev TI := St → Hp → (It → Hp → Prop) → Prop
def PIE (X : Cx) (pins : List (Addr × Obj)) (σ : St) (tg : Expr) (R : It → Hp → Prop) (itv : Value) (s2 : Shared) : Prop :=
  ∃ (it : Addr) (fp : List Addr) (tn : Nat → Heap → Prop) (J : It) (H' : Hp), itv = .ref it ∧ Inv X pins σ H' s2 ∧ Turn X.prog X.w X.K tg J fp it tn ∧ tn 0 s2.heap ∧ (∀ b ∈ fp, FpOk X pins H' b) ∧ R J H'
def PI (X : Cx) (tg iter : Expr) (wi : TI) : Prop :=
  ∀ (pins : List (Addr × Obj)) (s : Shared) (σ : St) (H : Hp) (R : It → Hp → Prop), Inv X pins σ H s → wi σ H R →
    wpAny (model X.prog X.w) X.A (eval iter X.env) (fun v s1 => wpAny (model X.prog X.w) X.A (pyIter v) (PIE X pins σ tg R) X.xe s1) X.xe s
theorem go_of {M : Model} {A : Around} {E : Value → Shared → Prop} {s : Shared} {tg : Expr} {it : Addr} {u : Value} {o : Obj} {n : String} {vs : Array Value} {Q : Unit → Shared → Prop} (ho : s.heap.get? it = some o) (hc : o.cls = .type n) (hd : o.data = .fields vs)
    (hn : ["enumerate", "zip", "dict_itemiterator", "dict_reverseitemiterator", "odict_iterator", "itertools.zip_longest", "itertools.pairwise"].contains n = false) (hQ : Q () s) : wpAny M A (letOwnedTupleGo tg (.ref it) u) Q E s := by
  unfold letOwnedTupleGo
  cases tg <;> first
    | exact wpAny_pure hQ
    | (cases u <;> first
        | exact wpAny_pure hQ
        | (refine wpAny_bind (wpAny_load ho ?_)
           rw [hc, hd]
           show wpAny M A (if (["enumerate", "zip", "dict_itemiterator", "dict_reverseitemiterator", "odict_iterator", "itertools.zip_longest", "itertools.pairwise"].contains n && vs[0]? == some (rawInt _)) = true then _ else _) Q E s
           rw [if_neg (by intro h; rw [hn, Bool.false_and] at h; cases h)]
           exact wpAny_pure hQ))
def Itl (K : PySem.W.Frag) (a : Addr) : It :=
  ⟨fun i H => ∃ xs x, SqL K H a xs ∧ xs[i]? = some x, fun i H x H' => H' = H ∧ ∀ xs, SqL K H a xs → xs[i]? = some x, fun i H => ∃ xs, SqL K H a xs ∧ xs.length ≤ i⟩
def Itt (K : PySem.W.Frag) (a : Addr) : It :=
  ⟨fun i H => ∃ xs x, SqT K H a xs ∧ xs[i]? = some x, fun i H x H' => H' = H ∧ ∀ xs, SqT K H a xs → xs[i]? = some x, fun i H => ∃ xs, SqT K H a xs ∧ xs.length ≤ i⟩
def Itr (lo : Int) (n : Nat) : It := ⟨fun i _ => i < n, fun i H x H' => H' = H ∧ x = .int (lo + i), fun i _ => n ≤ i⟩
theorem turn_list {P : Program} {w : World} {K : PySem.W.Frag} {tg : Expr} (a it : Addr) : Turn P w K tg (Itl K a) [it] it (fun i h => h.IsListIter it a i) where
  mem := by simp
  obj := fun i h st b hb => by
    have e : b = it := by simpa using hb
    subst e
    obtain ⟨o, e, c, d⟩ := st
    exact ⟨o, e, fun v z => by rw [d] at z; cases z⟩
  keep := fun i h h' st k => st.at fun o e => k it (by simp) o e
  item := by
    intro X hP hw hK hc i pins s σ H E I hf st hg
    subst hP hw hK
    obtain ⟨xs, x, hq, hx⟩ := hg
    obtain ⟨its, rv, p, hz⟩ := I.list hq
    obtain ⟨u, hu, ru⟩ := rv.get hx
    obtain ⟨f0, f1, f2, f3, f4, f5⟩ := hf it (by simp)
    refine wpAny_pyNext_list_item st p.isList (x := u) (by simpa using hu) fun h' st' sb => ?_
    have I1 : Inv X pins σ H { s with heap := h' } := I.turned (t' := s.toks) (fun b o hb e => (sb.2 b hb).trans e) f0 f1 f3 f4 f5
    obtain ⟨o, e, c, d⟩ := id st'
    exact ⟨u, rfl, go_of (s := { s with heap := h' }) e c d (by decide) ⟨x, H, I1, ru, ⟨rfl, fun ys hy => by rw [I.list_inj hy hq]; exact hx⟩, st', fun b hb => (hf b hb).1⟩⟩
  done := by
    intro X hP hw hK hc i pins s σ H E I hf st hg
    subst hP hw hK
    obtain ⟨xs, hq, hx⟩ := hg
    obtain ⟨its, rv, p, hz⟩ := I.list hq
    obtain ⟨f0, f1, f2, f3, f4, f5⟩ := hf it (by simp)
    have hl := rv.length
    exact wpAny_pyNext_list_end (I.ok.hd hc) st p.isList (by simp; omega) fun h' eb => ⟨rfl, I.turned (t' := s.toks) (fun b o hb e => eb b o hb e) f0 f1 f3 f4 f5⟩
  self := fun _ _ _ _ _ st h => wpAny_pyIter_listiter st h
theorem turn_tuple {P : Program} {w : World} {K : PySem.W.Frag} {tg : Expr} (a it : Addr) : Turn P w K tg (Itt K a) [it] it (fun i h => h.IsTupleIter it a i) where
  mem := by simp
  obj := fun i h st b hb => by
    have e : b = it := by simpa using hb
    subst e
    obtain ⟨o, e, c, d⟩ := st
    exact ⟨o, e, fun v z => by rw [d] at z; cases z⟩
  keep := fun i h h' st k => st.at fun o e => k it (by simp) o e
  item := by
    intro X hP hw hK hc i pins s σ H E I hf st hg
    subst hP hw hK
    obtain ⟨xs, x, hq, hx⟩ := hg
    obtain ⟨its, rv, p, hz⟩ := I.tuple hq
    obtain ⟨u, hu, ru⟩ := rv.get hx
    obtain ⟨f0, f1, f2, f3, f4, f5⟩ := hf it (by simp)
    refine wpAny_pyNext_tuple_item st (show s.heap.IsTuple a its.toArray from p) (x := u) (by simpa using hu) fun h' st' sb => ?_
    have I1 : Inv X pins σ H { s with heap := h' } := I.turned (t' := s.toks) (fun b o hb e => (sb.2 b hb).trans e) f0 f1 f3 f4 f5
    obtain ⟨o, e, c, d⟩ := id st'
    exact ⟨u, rfl, go_of (s := { s with heap := h' }) e c d (by decide) ⟨x, H, I1, ru, ⟨rfl, fun ys hy => by rw [I.tuple_inj hy hq]; exact hx⟩, st', fun b hb => (hf b hb).1⟩⟩
  done := by
    intro X hP hw hK hc i pins s σ H E I hf st hg
    subst hP hw hK
    obtain ⟨xs, hq, hx⟩ := hg
    obtain ⟨its, rv, p, hz⟩ := I.tuple hq
    obtain ⟨f0, f1, f2, f3, f4, f5⟩ := hf it (by simp)
    have hl := rv.length
    exact wpAny_pyNext_tuple_end (I.ok.hd hc) st (show s.heap.IsTuple a its.toArray from p) (by simp; omega) fun h' eb => ⟨rfl, I.turned (t' := s.toks) (fun b o hb e => eb b o hb e) f0 f1 f3 f4 f5⟩
  self := fun _ _ _ _ _ st h => wpAny_pyIter_tupleiter st h
theorem turn_range {P : Program} {w : World} {K : PySem.W.Frag} {tg : Expr} (it : Addr) (lo : Int) (n : Nat) : Turn P w K tg (Itr lo n) [it] it (fun i h => IsRangeIter h it (lo + (i : Nat) * 1) ((n : Int) - (i : Nat)) 1) where
  mem := by simp
  obj := fun i h st b hb => by
    have e : b = it := by simpa using hb
    subst e
    exact ⟨_, st, fun v z => by
      have z' : Data.fields _ = Data.cell v := z
      cases z'⟩
  keep := fun i h h' st k => k it (by simp) _ st
  item := by
    intro X hP hw hK hc i pins s σ H E I hf st hg
    subst hP hw hK
    obtain ⟨f0, f1, f2, f3, f4, f5⟩ := hf it (by simp)
    have W := Walks.range (prog := X.prog) (w := X.w) (I.ok.hd hc) it lo 1 n
    refine W.item i s _ _ hg st fun v h' tk hv st' kk => ?_
    obtain ⟨t, rfl⟩ := hv
    have I1 : Inv X pins σ H { s with heap := h', toks := tk } := I.turned (fun b o hb e => kk b o (by simpa using hb) e) f0 f1 f3 f4 f5
    refine ⟨_, rfl, go_of (s := { s with heap := h', toks := tk }) (n := "range_iterator") st' rfl rfl (by decide) ⟨.int (lo + i), H, I1, ⟨t, ?_⟩, ⟨rfl, rfl⟩, st', fun b hb => (hf b hb).1⟩⟩
    rw [Int.mul_one]
  done := by
    intro X hP hw hK hc i pins s σ H E I hf st hg
    subst hP hw hK
    obtain ⟨f0, f1, f2, f3, f4, f5⟩ := hf it (by simp)
    exact wpAny_pyNext_range_end (I.ok.hd hc) st (by have : n ≤ i := hg; omega) fun h' eb => ⟨rfl, I.turned (t' := s.toks) (fun b o hb e => eb b o hb e) f0 f1 f3 f4 f5⟩
  self := fun _ _ _ _ _ st h => wpAny_pyIter_rangeiter st h
end L2
namespace L2
open PySem PySem.Spec PyProof.Rows
section
variable {X : Cx} {tg : Expr}
def iList (K : PySem.W.Frag) (tl : TE) : TI := fun σ H R => tl σ H fun x H1 => ∃ a, x = .ref a ∧ (∃ xs, SqL K H1 a xs) ∧ R (Itl K a) H1
def iTup (K : PySem.W.Frag) (tl : TE) : TI := fun σ H R => tl σ H fun x H1 => ∃ a, x = .ref a ∧ (∃ xs, SqT K H1 a xs) ∧ R (Itt K a) H1
theorem pi_list {l : Expr} {tl : TE} (hl : PE X l tl) : PI X tg l (iList X.K tl) := by
  intro pins s σ H R I h
  refine thn (hl pins s σ H _ I h) fun v s1 ⟨x, H1, I1, r1, q1⟩ => ?_
  obtain ⟨a, e, ⟨xs, hq⟩, q⟩ := q1
  subst e
  cases r1
  obtain ⟨its, rv, p, hz⟩ := I1.list hq
  refine wpAny_pyIter_list p.isList ?_
  refine ⟨s1.heap.objs.size, [s1.heap.objs.size], _, _, H1, rfl, I1.kept (t' := s1.toks) fun b o e => Heap.get?_push_of_some _ e, turn_list a _, ⟨_, Heap.get?_push_size _ rfl, rfl, rfl⟩, fun b hb => ?_, q⟩
  have e : b = s1.heap.objs.size := by simpa using hb
  subst e
  exact I1.fpOk (Nat.le_refl _) (I1.hok.fresh (Nat.le_refl _))
theorem pi_tup {l : Expr} {tl : TE} (hl : PE X l tl) : PI X tg l (iTup X.K tl) := by
  intro pins s σ H R I h
  refine thn (hl pins s σ H _ I h) fun v s1 ⟨x, H1, I1, r1, q1⟩ => ?_
  obtain ⟨a, e, ⟨xs, hq⟩, q⟩ := q1
  subst e
  cases r1
  obtain ⟨its, rv, p, hz⟩ := I1.tuple hq
  refine wpAny_pyIter_tuple (show s1.heap.IsTuple a its.toArray from p) ?_
  refine ⟨s1.heap.objs.size, [s1.heap.objs.size], _, _, H1, rfl, I1.kept (t' := s1.toks) fun b o e => Heap.get?_push_of_some _ e, turn_tuple a _, ⟨_, Heap.get?_push_size _ rfl, rfl, rfl⟩, fun b hb => ?_, q⟩
  have e : b = s1.heap.objs.size := by simpa using hb
  subst e
  exact I1.fpOk (Nat.le_refl _) (I1.hok.fresh (Nat.le_refl _))
theorem range_it {pins : List (Addr × Obj)} {σ : St} {H : Hp} {s : Shared} {R : It → Hp → Prop} {E : Value → Shared → Prop} {lo hi : Int} {t u v : Tok} {tk : Nat} (I : Inv X pins σ H s) (h1 : -(2 ^ 62) ≤ lo) (h2 : lo < 2 ^ 62) (h3 : -(2 ^ 62) ≤ hi) (h4 : hi < 2 ^ 62)
    (q : R (Itr lo (hi - lo).toNat) H) : wpAny (model X.prog X.w) X.A (pyIter (.ref s.heap.objs.size)) (PIE X pins σ tg R) E { s with heap := s.heap.push { cls := .type "range", data := .fields #[.int lo t, .int hi u, .int 1 v] }, toks := tk } := by
  refine wpAny_pyIter_range (IsRange.new ..) (small_one h1 h2 h3 h4) ?_
  have I1 : Inv X pins σ H { s with heap := s.heap.push { cls := .type "range", data := .fields #[.int lo t, .int hi u, .int 1 v] }, toks := tk } := I.kept fun b o e => Heap.get?_push_of_some _ e
  refine ⟨(s.heap.push { cls := .type "range", data := .fields #[.int lo t, .int hi u, .int 1 v] }).objs.size, [(s.heap.push { cls := .type "range", data := .fields #[.int lo t, .int hi u, .int 1 v] }).objs.size], _, _, H, rfl,
    I1.kept (t' := tk) fun b o e => Heap.get?_push_of_some _ e, turn_range _ lo (hi - lo).toNat, ?_, fun b hb => ?_, q⟩
  · have e1 : lo + ((0 : Nat) : Int) * 1 = lo := by simp
    have e2 : (((hi - lo).toNat : Nat) : Int) - ((0 : Nat) : Int) = Builtin.Range.rangeSize lo hi 1 := by rw [rangeSize_one]; split <;> omega
    show IsRangeIter _ _ (lo + ((0 : Nat) : Int) * 1) ((((hi - lo).toNat : Nat) : Int) - ((0 : Nat) : Int)) 1
    rw [e1, e2]
    exact Heap.get?_push_size _ rfl
  · have e : b = (s.heap.push { cls := .type "range", data := .fields #[.int lo t, .int hi u, .int 1 v] }).objs.size := by simpa using hb
    subst e
    exact I1.fpOk (Nat.le_refl _) (I1.hok.fresh (Nat.le_refl _))
def iRng1 (ta : TA) : TI := fun σ H R => ta σ H fun vs H1 => ∃ j : Int, vs = [.int j] ∧ -(2 ^ 62) ≤ j ∧ j < 2 ^ 62 ∧ R (Itr 0 j.toNat) H1
theorem pi_range1 {a : Expr} {ta : TA} {p pos : Pos} (hg : Gl X "range") (hm : X.mg "range" = none) (ha : PA X [a] ta) (hs : starEach [a] X.env = [(false, eval a X.env)] := by rfl) : PI X tg (.Call (.Name "range" p) [a] [] pos) (iRng1 ta) := by
  intro pins s σ H R I h
  refine Call_ (ld_blt I hg hm boot_range (PyProof.Rows.callWith_type1 (thn (ha pos pins s σ H _ I h) fun us s1 ⟨vs, H1, I1, r1, q1⟩ => ?_) hs rfl))
  obtain ⟨j, e, q1, q2, q⟩ := q1
  subst e
  cases r1 with
  | cons r rr =>
    cases rr
    obtain ⟨t, rfl⟩ := r
    exact call_range_1 (range_it I1 (by omega) (by omega) q1 q2 (by simpa using q))
def tFor (wi : TI) (g : TG) (tb : TS) : TS := fun D σ H => wi σ H fun J H1 => ∃ W : Nat → Nat → St → Hp → Prop, (∃ m, W 0 m σ H1) ∧ ∀ i m σ H, W i m σ H →
  (J.stop i H ∧ D.nx σ H) ∨ (J.go i H ∧ ∃ N : St → Hp → Prop, (∀ σ' H', N σ' H' → ∃ m', m' < m ∧ W (i + 1) m' σ' H') ∧ ∀ x H', J.yld i H x H' → g x σ H' fun σ2 H2 => tb { D with nx := N, ct := N, bk := D.nx } σ2 H2)
def pinsAt (fp : List Addr) (h : Heap) : List (Addr × Obj) := fp.filterMap fun b => (h.get? b).map fun o => (b, o)
theorem mem_pinsAt {fp : List Addr} {h : Heap} {b : Addr} {o : Obj} (hb : b ∈ fp) (e : h.get? b = some o) : (b, o) ∈ pinsAt fp h := List.mem_filterMap.mpr ⟨b, hb, by rw [e]; rfl⟩
theorem of_pinsAt {fp : List Addr} {h : Heap} {p : Addr × Obj} (hp : p ∈ pinsAt fp h) : p.1 ∈ fp ∧ h.get? p.1 = some p.2 := by
  obtain ⟨b, hb, e⟩ := List.mem_filterMap.mp hp
  cases q : h.get? b with
  | none => rw [q] at e; cases e
  | some o =>
    rw [q] at e
    have e' : (b, o) = p := Option.some.inj e
    subst e'
    exact ⟨hb, q⟩
theorem Inv.pinned {pins : List (Addr × Obj)} {σ : St} {H : Hp} {s : Shared} {fp : List Addr} (I : Inv X pins σ H s) (hf : ∀ b ∈ fp, FpOk X pins H b) (ho : ∀ b ∈ fp, ∃ o, s.heap.get? b = some o ∧ ∀ v, o.data ≠ .cell v) : Inv X (pins ++ pinsAt fp s.heap) σ H s :=
  I.pins_of fun p hp => (List.mem_append.mp hp).elim (fun z => I.pin p (List.mem_append_right _ z)) fun z => by
    obtain ⟨hb, e⟩ := of_pinsAt z
    obtain ⟨f0, f1, f2, _⟩ := hf p.1 hb
    obtain ⟨o, e', d⟩ := ho p.1 hb
    rw [e] at e'; cases e'
    exact ⟨e, f0, f1, f2, d⟩
theorem Inv.unpinned {pins pl : List (Addr × Obj)} {σ : St} {H : Hp} {s : Shared} (I : Inv X (pins ++ pl) σ H s) : Inv X pins σ H s := I.pins_of fun p hp => I.pin p (List.mem_append_right _ (List.mem_append_left _ hp))
theorem ps_for {iter : Expr} {body : List Stmt} {wi : TI} {g : TG} {tb : TS} {pos : Pos} (hp : PassesOwn (model X.prog X.w) X.A X.env X.xe) (hc : X.calm = true) (hi : PI X tg iter wi) (hg : PG X tg g) (hb : PSs X body tb)
    (hs : ∀ x, foldedSetIterable iter X.env x = pure x := by intro _; rfl) : PS X (.For tg iter body [] pos) (tFor wi g tb) := by
  intro pins s σ H D I h
  refine wpAny_For (thn (hi pins s σ H _ I h) fun v s1 h1 => thn h1 fun itv s2 h2 => ?_) hs
  obtain ⟨it, fp, tn, J, H2, e, I2, T, st2, f2, W, ⟨m0, w0⟩, turn⟩ := h2
  subst e
  have stat : ∀ {H' : Hp}, (∀ b ∈ fp, H' b = none) → ∀ b ∈ fp, FpOk X pins H' b := fun hn b hb => ⟨hn b hb, (f2 b hb).2⟩
  refine codeAny_forLoop_any (fun n s' => ∃ i σ' H', Inv X pins σ' H' s' ∧ tn i s'.heap ∧ (∀ b ∈ fp, H' b = none) ∧ W i n σ' H') ?_ m0 ⟨0, σ, H2, I2, st2, fun b hb => (f2 b hb).1, w0⟩
  rintro n s3 ⟨i, σ3, H3, I3, st3, fr3, w3⟩
  rcases turn i n σ3 H3 w3 with ⟨stop, qn⟩ | ⟨go, N, hN, step⟩
  · refine wpAny_passesOwn hp (thn (T.done X rfl rfl rfl hc i pins s3 σ3 H3 X.xe I3 (stat fr3) st3 stop) fun r s4 ⟨hr, I4⟩ => ?_)
    subst hr
    exact wpAny_execs_nil ⟨σ3, H3, I4, qn⟩
  · refine wpAny_passesOwn hp (thn (T.item X rfl rfl rfl hc i pins s3 σ3 H3 X.xe I3 (stat fr3) st3 go) fun r s4 ⟨u, hr, h4⟩ => ?_)
    subst hr
    refine wpAny_passesOwn hp (thn h4 fun _ s5 ⟨x, H5, I5, r5, y5, st5, fr5⟩ => ?_)
    have I5' := I5.pinned (stat fr5) (T.obj _ _ st5)
    refine wpAny_passesOwn hp (thn (hg _ s5 σ3 H5 x u _ I5' r5 (step x H5 y5)) fun _ s6 ⟨σ6, H6, I6, q6⟩ => ?_)
    refine wpAny_passesOwn hp (thn (hb _ s6 σ6 H6 _ I6 q6) fun f s7 q7 => ?_)
    have again : ∀ {σ7 : St} {H7 : Hp}, Inv X (pins ++ pinsAt fp s5.heap) σ7 H7 s7 → N σ7 H7 → ∃ m, m < n ∧ ∃ i σ' H', Inv X pins σ' H' s7 ∧ tn i s7.heap ∧ (∀ b ∈ fp, H' b = none) ∧ W i m σ' H' := fun {σ7 H7} I7 n7 => by
      obtain ⟨m', hm, w7⟩ := hN σ7 H7 n7
      refine ⟨m', hm, i + 1, σ7, H7, I7.unpinned, T.keep _ _ _ st5 fun b hb o e => (I7.pin (b, o) (List.mem_append_right _ (List.mem_append_right _ (mem_pinsAt hb e)))).1, fun b hb => ?_, w7⟩
      obtain ⟨o, e, d⟩ := T.obj _ _ st5 b hb
      exact (I7.pin (b, o) (List.mem_append_right _ (List.mem_append_right _ (mem_pinsAt hb e)))).2.1
    cases f with
    | next => obtain ⟨σ7, H7, I7, n7⟩ := q7; exact again I7 n7
    | cont => obtain ⟨σ7, H7, I7, n7⟩ := q7; exact again I7 n7
    | brk => obtain ⟨σ7, H7, I7, q7⟩ := q7; exact ⟨σ7, H7, I7.unpinned, q7⟩
    | ret v => obtain ⟨x7, σ7, H7, I7, r7, q7⟩ := q7; exact ⟨x7, σ7, H7, I7.unpinned, r7, q7⟩
end
theorem for_list {K : PySem.W.Frag} {a : Addr} {xs : List V} {g : TG} {tb : TS} {D : Ends} {σ : St} {H : Hp} (Pv : Nat → St → Hp → Prop) (h0 : Pv 0 σ H) (hl : ∀ i σ H, i ≤ xs.length → Pv i σ H → SqL K H a xs)
    (hs : ∀ i x σ H, xs[i]? = some x → Pv i σ H → g x σ H fun σ2 H2 => tb { D with nx := Pv (i + 1), ct := Pv (i + 1), bk := D.nx } σ2 H2) (hd : ∀ σ H, Pv xs.length σ H → D.nx σ H) :
    ∃ W : Nat → Nat → St → Hp → Prop, (∃ m, W 0 m σ H) ∧ ∀ i m σ H, W i m σ H →
      ((Itl K a).stop i H ∧ D.nx σ H) ∨ ((Itl K a).go i H ∧ ∃ N : St → Hp → Prop, (∀ σ' H', N σ' H' → ∃ m', m' < m ∧ W (i + 1) m' σ' H') ∧ ∀ x H', (Itl K a).yld i H x H' → g x σ H' fun σ2 H2 => tb { D with nx := N, ct := N, bk := D.nx } σ2 H2) := by
  refine ⟨fun i m σ H => m = xs.length - i ∧ i ≤ xs.length ∧ Pv i σ H, ⟨xs.length, by simp, Nat.zero_le _, h0⟩, ?_⟩
  rintro i m σ H ⟨rfl, hi, p⟩
  have q := hl i σ H hi p
  by_cases hlt : i < xs.length
  · refine .inr ⟨⟨xs, xs[i], q, by simp [hlt]⟩, Pv (i + 1), fun σ' H' p' => ⟨xs.length - (i + 1), by omega, rfl, hlt, p'⟩, fun x H' y => ?_⟩
    obtain ⟨e, y⟩ := y
    subst e
    exact hs i x σ _ (y xs q) p
  · have e : i = xs.length := by omega
    subst e
    exact .inl ⟨⟨xs, q, Nat.le_refl _⟩, hd σ H p⟩
theorem for_tup {K : PySem.W.Frag} {a : Addr} {xs : List V} {g : TG} {tb : TS} {D : Ends} {σ : St} {H : Hp} (Pv : Nat → St → Hp → Prop) (h0 : Pv 0 σ H) (hl : ∀ i σ H, i ≤ xs.length → Pv i σ H → SqT K H a xs)
    (hs : ∀ i x σ H, xs[i]? = some x → Pv i σ H → g x σ H fun σ2 H2 => tb { D with nx := Pv (i + 1), ct := Pv (i + 1), bk := D.nx } σ2 H2) (hd : ∀ σ H, Pv xs.length σ H → D.nx σ H) :
    ∃ W : Nat → Nat → St → Hp → Prop, (∃ m, W 0 m σ H) ∧ ∀ i m σ H, W i m σ H →
      ((Itt K a).stop i H ∧ D.nx σ H) ∨ ((Itt K a).go i H ∧ ∃ N : St → Hp → Prop, (∀ σ' H', N σ' H' → ∃ m', m' < m ∧ W (i + 1) m' σ' H') ∧ ∀ x H', (Itt K a).yld i H x H' → g x σ H' fun σ2 H2 => tb { D with nx := N, ct := N, bk := D.nx } σ2 H2) := by
  refine ⟨fun i m σ H => m = xs.length - i ∧ i ≤ xs.length ∧ Pv i σ H, ⟨xs.length, by simp, Nat.zero_le _, h0⟩, ?_⟩
  rintro i m σ H ⟨rfl, hi, p⟩
  have q := hl i σ H hi p
  by_cases hlt : i < xs.length
  · refine .inr ⟨⟨xs, xs[i], q, by simp [hlt]⟩, Pv (i + 1), fun σ' H' p' => ⟨xs.length - (i + 1), by omega, rfl, hlt, p'⟩, fun x H' y => ?_⟩
    obtain ⟨e, y⟩ := y
    subst e
    exact hs i x σ _ (y xs q) p
  · have e : i = xs.length := by omega
    subst e
    exact .inl ⟨⟨xs, q, Nat.le_refl _⟩, hd σ H p⟩
theorem for_range {lo : Int} {n : Nat} {g : TG} {tb : TS} {D : Ends} {σ : St} {H : Hp} (Pv : Nat → St → Hp → Prop) (h0 : Pv 0 σ H)
    (hs : ∀ i σ H, i < n → Pv i σ H → g (.int (lo + i)) σ H fun σ2 H2 => tb { D with nx := Pv (i + 1), ct := Pv (i + 1), bk := D.nx } σ2 H2) (hd : ∀ σ H, Pv n σ H → D.nx σ H) :
    ∃ W : Nat → Nat → St → Hp → Prop, (∃ m, W 0 m σ H) ∧ ∀ i m σ H, W i m σ H →
      ((Itr lo n).stop i H ∧ D.nx σ H) ∨ ((Itr lo n).go i H ∧ ∃ N : St → Hp → Prop, (∀ σ' H', N σ' H' → ∃ m', m' < m ∧ W (i + 1) m' σ' H') ∧ ∀ x H', (Itr lo n).yld i H x H' → g x σ H' fun σ2 H2 => tb { D with nx := N, ct := N, bk := D.nx } σ2 H2) := by
  refine ⟨fun i m σ H => m = n - i ∧ i ≤ n ∧ Pv i σ H, ⟨n, by simp, Nat.zero_le _, h0⟩, ?_⟩
  rintro i m σ H ⟨rfl, hi, p⟩
  by_cases hlt : i < n
  · refine .inr ⟨hlt, Pv (i + 1), fun σ' H' p' => ⟨n - (i + 1), by omega, rfl, hlt, p'⟩, fun x H' y => ?_⟩
    obtain ⟨e, y⟩ := y
    subst e y
    exact hs i σ _ hlt p
  · have e : i = n := by omega
    subst e
    exact .inl ⟨Nat.le_refl _, hd σ H p⟩
end L2
namespace L2
open PySem PySem.Spec PyProof.Rows
abbrev R2 := V → V → Hp → VK → Prop
def OpR (X : Cx) (f : Value → Value → Sem Value) (r : R2) : Prop :=
  ∀ (pins : List (Addr × Obj)) (s : Shared) (σ : St) (H : Hp) (x y : V) (v u : Value) (Q : VK), Inv X pins σ H s → RelV x v → RelV y u → r x y H Q →
    wpAny (model X.prog X.w) X.A (f v u) (EP X pins σ Q) X.xe s
def CallR (X : Cx) (f : Value) (r : List V → Hp → VK → Prop) : Prop :=
  ∀ (pins : List (Addr × Obj)) (s : Shared) (σ : St) (H : Hp) (xs : List V) (us : List Value) (Q : VK), Inv X pins σ H s → Vals xs us → r xs H Q →
    wpAny (model X.prog X.w) X.A (call f us) (EP X pins σ Q) X.xe s
def TruR (X : Cx) (r : V → Hp → (Bool → Hp → Prop) → Prop) : Prop :=
  ∀ (pins : List (Addr × Obj)) (s : Shared) (σ : St) (H : Hp) (x : V) (v : Value) (Q : Bool → Hp → Prop), Inv X pins σ H s → RelV x v → r x H Q →
    wpAny (model X.prog X.w) X.A (truthy v) (TP X pins σ Q) X.xe s
def tOp (r : R2) (ta tb : TE) : TE := fun σ H Q => ta σ H fun x H1 => tb σ H1 fun y H2 => r x y H2 Q
def rI (C : Int → Int → Prop) (g : Int → Int → V) : R2 := fun x y H Q => ∃ i j, x = .int i ∧ y = .int j ∧ C i j ∧ Q (g i j) H
def rI0 (g : Int → Int → V) : R2 := fun x y H Q => ∃ i j, x = .int i ∧ y = .int j ∧ Q (g i j) H
section
variable {X : Cx} {a b c : Expr} {ta tb tc : TE} {pos : Pos}
theorem binT (ha : PE X a ta) (hb : PE X b tb) {pins : List (Addr × Obj)} {s : Shared} {σ : St} {H : Hp} {R : V → V → Hp → Prop} (I : Inv X pins σ H s)
    (h : ta σ H fun x H1 => tb σ H1 fun y H2 => R x y H2) {Q : Value → Shared → Prop} {f : Value → Value → Sem Value}
    (hf : ∀ v u s2 x y H2, Inv X pins σ H2 s2 → RelV x v → RelV y u → R x y H2 → wpAny (model X.prog X.w) X.A (f v u) Q X.xe s2) :
    wpAny (model X.prog X.w) X.A (eval a X.env) (fun v s₁ => wpAny (model X.prog X.w) X.A (eval b X.env) (fun u s₂ => wpAny (model X.prog X.w) X.A (f v u) Q X.xe s₂) X.xe s₁) X.xe s := by
  refine thn (ha pins s σ H _ I h) fun v s1 ⟨x, H1, I1, r1, q1⟩ => ?_
  refine thn (hb pins s1 σ H1 _ I1 q1) fun u s2 ⟨y, H2, I2, r2, q2⟩ => ?_
  exact hf v u s2 x y H2 I2 r1 r2 q2
theorem pe_op {op : Operator} {r : R2} (ho : OpR X (binaryOp op) r) (ha : PE X a ta) (hb : PE X b tb) : PE X (.BinOp a op b pos) (tOp r ta tb) := by
  intro pins s σ H Q I h
  exact wpAny_BinOp (binT ha hb I h fun v u s2 x y H2 I2 rx ry q => ho pins s2 σ H2 x y v u Q I2 rx ry q)
theorem opI {f : Value → Value → Sem Value} {C : Int → Int → Prop} {g : Int → Int → Int}
    (rule : ∀ (i j : Int) (t u : Tok) (s : Shared) (Q : Value → Shared → Prop) (E : Value → Shared → Prop), C i j → Q (.int (g i j) s.toks) { s with toks := s.toks + 1 } → wpAny (model X.prog X.w) X.A (f (.int i t) (.int j u)) Q E s) :
    OpR X f (rI C fun i j => .int (g i j)) := by
  intro pins s σ H x y v u Q I rx ry h
  obtain ⟨i, j, rfl, rfl, hc, q⟩ := h
  obtain ⟨t, rfl⟩ := rx
  obtain ⟨t', rfl⟩ := ry
  exact rule i j t t' s _ _ hc ⟨.int (g i j), H, I.tok _, ⟨_, rfl⟩, q⟩
theorem opI0 {f : Value → Value → Sem Value} {g : Int → Int → Int}
    (rule : ∀ (i j : Int) (t u : Tok) (s : Shared) (Q : Value → Shared → Prop) (E : Value → Shared → Prop), Q (.int (g i j) s.toks) { s with toks := s.toks + 1 } → wpAny (model X.prog X.w) X.A (f (.int i t) (.int j u)) Q E s) :
    OpR X f (rI0 fun i j => .int (g i j)) := by
  intro pins s σ H x y v u Q I rx ry h
  obtain ⟨i, j, rfl, rfl, q⟩ := h
  obtain ⟨t, rfl⟩ := rx
  obtain ⟨t', rfl⟩ := ry
  exact rule i j t t' s _ _ ⟨.int (g i j), H, I.tok _, ⟨_, rfl⟩, q⟩
theorem opB0 {f : Value → Value → Sem Value} {g : Int → Int → Bool}
    (rule : ∀ (i j : Int) (t u : Tok) (s : Shared) (Q : Value → Shared → Prop) (E : Value → Shared → Prop), Q (.bool (g i j)) s → wpAny (model X.prog X.w) X.A (f (.int i t) (.int j u)) Q E s) :
    OpR X f (rI0 fun i j => .bl (g i j)) := by
  intro pins s σ H x y v u Q I rx ry h
  obtain ⟨i, j, rfl, rfl, q⟩ := h
  obtain ⟨t, rfl⟩ := rx
  obtain ⟨t', rfl⟩ := ry
  exact rule i j t t' s _ _ ⟨.bl (g i j), H, I, rfl, q⟩
def CDiv (i j : Int) : Prop := 0 < j ∧ j < 1073741824
def CMul (i j : Int) : Prop := (-(2 ^ 64) < i ∧ i < 2 ^ 64) ∨ (-(2 ^ 64) < j ∧ j < 2 ^ 64)
theorem CMul.ok {i j : Int} (h : CMul i j) : IntMulOk i j := by
  rcases h with ⟨h1, h2⟩ | ⟨h1, h2⟩
  · exact .of_left (intBits_le_64 h1 h2)
  · exact .of_right (intBits_le_64 h1 h2)
theorem op_add : OpR X (binaryOp .Add) (rI0 fun i j => .int (i + j)) := opI0 fun _ _ _ _ _ _ _ q => add_int q
theorem op_sub : OpR X (binaryOp .Sub) (rI0 fun i j => .int (i - j)) := opI0 fun _ _ _ _ _ _ _ q => sub_int q
theorem op_mul : OpR X (binaryOp .Mult) (rI CMul fun i j => .int (i * j)) := opI fun _ _ _ _ _ _ _ hc q => mul_int q hc.ok
theorem op_fdiv : OpR X (binaryOp .FloorDiv) (rI CDiv fun i j => .int (i / j)) := opI fun i j _ _ _ _ _ hc q => by
  have h1 : (0 : Int) < j := hc.1
  have h2 : j < 1073741824 := hc.2
  exact floordiv_int (by omega) (by rw [Int.fdiv_eq_ediv_of_nonneg i (by omega)]; exact q) (.inl (PyProof.noPylong_small (by omega)))
theorem op_mod : OpR X (binaryOp .Mod) (rI (fun _ j => 0 < j) fun i j => .int (i % j)) := opI fun i j _ _ _ _ _ hc q => by
  have h1 : (0 : Int) < j := hc
  exact mod_int' (by omega) (by rw [Int.fmod_eq_emod_of_nonneg i (by omega)]; exact q)
end
def scal : V → V → Bool
  | .non, .non => true | .non, .int _ => true | .int _, .non => true | .non, .bl _ => true | .bl _, .non => true | .non, .str _ => true | .str _, .non => true
  | .int _, .int _ => true | .bl _, .bl _ => true | .str _, .str _ => true | .byt _, .byt _ => true
  | .int _, .str _ => true | .str _, .int _ => true | .bl _, .str _ => true | .str _, .bl _ => true
  | _, _ => false
def rEq : R2 := fun x y H Q => scal x y = true ∧ Q (.bl (decide (x = y))) H
def rNe : R2 := fun x y H Q => scal x y = true ∧ Q (.bl (!decide (x = y))) H
theorem dec_int {i j : Int} : decide (V.int i = V.int j) = (i == j) := by
  rw [Bool.eq_iff_iff]
  simp
theorem dec_bl {i j : Bool} : decide (V.bl i = V.bl j) = (i == j) := by
  rw [Bool.eq_iff_iff]
  simp
theorem dec_str {i j : Str} : decide (V.str i = V.str j) = (i == j) := by
  rw [Bool.eq_iff_iff]
  simp
theorem dec_byt {i j : Array UInt8} : decide (V.byt i = V.byt j) = (i.toList == j.toList) := by
  rw [Bool.eq_iff_iff]
  cases i
  cases j
  simp
section
variable {X : Cx} {a b c : Expr} {ta tb tc : TE} {pos : Pos}
theorem fin_bl {pins : List (Addr × Obj)} {σ : St} {H : Hp} {s : Shared} {Q : VK} {k k' : Bool} (I : Inv X pins σ H s) (q : Q (.bl k) H) (e : k = k') : EP X pins σ Q (.bool k') s := by
  subst e
  exact ⟨.bl k, H, I, rfl, q⟩
theorem op_eq : OpR X (compareOp .Eq) rEq := by
  intro pins s σ H x y v u Q I rx ry h
  obtain ⟨hs, q⟩ := h
  cases x with
  | non =>
    cases rx
    cases y with
    | non => cases ry; exact PySem.EqNone.eq_none_none (fin_bl I q (by simp))
    | bl j => cases ry; exact PySem.EqNone.eq_none_bool (fin_bl I q (by simp))
    | int j => obtain ⟨t', rfl⟩ := ry; exact PySem.EqNone.eq_none_int (fin_bl I q (by simp))
    | str j => obtain ⟨t', rfl⟩ := ry; exact PySem.EqNone.eq_none_str (fin_bl I q (by simp))
    | _ => exact absurd (show false = true from hs) Bool.false_ne_true
  | bl i =>
    cases rx
    cases y with
    | non => cases ry; exact PySem.EqNone.eq_bool_none (fin_bl I q (by simp))
    | bl j => cases ry; exact eq_bool (fin_bl I q dec_bl)
    | str j => obtain ⟨t', rfl⟩ := ry; exact PySem.EqMixed.eq_bool_str (fin_bl I q (by simp))
    | _ => exact absurd (show false = true from hs) Bool.false_ne_true
  | int i =>
    obtain ⟨t, rfl⟩ := rx
    cases y with
    | non => cases ry; exact PySem.EqNone.eq_int_none (fin_bl I q (by simp))
    | int j => obtain ⟨t', rfl⟩ := ry; exact eq_int (fin_bl I q dec_int)
    | str j => obtain ⟨t', rfl⟩ := ry; exact PySem.EqMixed.eq_int_str (fin_bl I q (by simp))
    | _ => exact absurd (show false = true from hs) Bool.false_ne_true
  | str i =>
    obtain ⟨t, rfl⟩ := rx
    cases y with
    | non => cases ry; exact PySem.EqNone.eq_str_none (fin_bl I q (by simp))
    | bl j => cases ry; exact PySem.EqMixed.eq_str_bool (fin_bl I q (by simp))
    | int j => obtain ⟨t', rfl⟩ := ry; exact PySem.EqMixed.eq_str_int (fin_bl I q (by simp))
    | str j => obtain ⟨t', rfl⟩ := ry; exact eq_str (fin_bl I q dec_str)
    | _ => exact absurd (show false = true from hs) Bool.false_ne_true
  | byt i =>
    obtain ⟨t, rfl⟩ := rx
    cases y with
    | byt j => obtain ⟨t', rfl⟩ := ry; exact PySem.W.eq_bytes (fin_bl I q dec_byt)
    | _ => exact absurd (show false = true from hs) Bool.false_ne_true
  | _ => cases y <;> exact absurd (show false = true from hs) Bool.false_ne_true
theorem op_ne : OpR X (compareOp .NotEq) rNe := by
  intro pins s σ H x y v u Q I rx ry h
  obtain ⟨hs, q⟩ := h
  cases x with
  | non =>
    cases rx
    cases y with
    | non => cases ry; exact PySem.EqNone.ne_none_none (fin_bl I q (by simp))
    | bl j => cases ry; exact PySem.EqNone.ne_none_bool (fin_bl I q (by simp))
    | int j => obtain ⟨t', rfl⟩ := ry; exact PySem.EqNone.ne_none_int (fin_bl I q (by simp))
    | str j => obtain ⟨t', rfl⟩ := ry; exact PySem.EqNone.ne_none_str (fin_bl I q (by simp))
    | _ => exact absurd (show false = true from hs) Bool.false_ne_true
  | bl i =>
    cases rx
    cases y with
    | non => cases ry; exact PySem.EqNone.ne_bool_none (fin_bl I q (by simp))
    | bl j => cases ry; exact ne_bool (fin_bl I q (congrArg not dec_bl))
    | str j => obtain ⟨t', rfl⟩ := ry; exact PySem.EqMixed.ne_bool_str (fin_bl I q (by simp))
    | _ => exact absurd (show false = true from hs) Bool.false_ne_true
  | int i =>
    obtain ⟨t, rfl⟩ := rx
    cases y with
    | non => cases ry; exact PySem.EqNone.ne_int_none (fin_bl I q (by simp))
    | int j => obtain ⟨t', rfl⟩ := ry; exact ne_int (fin_bl I q (congrArg not dec_int))
    | str j => obtain ⟨t', rfl⟩ := ry; exact PySem.EqMixed.ne_int_str (fin_bl I q (by simp))
    | _ => exact absurd (show false = true from hs) Bool.false_ne_true
  | str i =>
    obtain ⟨t, rfl⟩ := rx
    cases y with
    | non => cases ry; exact PySem.EqNone.ne_str_none (fin_bl I q (by simp))
    | bl j => cases ry; exact PySem.EqMixed.ne_str_bool (fin_bl I q (by simp))
    | int j => obtain ⟨t', rfl⟩ := ry; exact PySem.EqMixed.ne_str_int (fin_bl I q (by simp))
    | str j => obtain ⟨t', rfl⟩ := ry; exact ne_str (fin_bl I q (congrArg not dec_str))
    | _ => exact absurd (show false = true from hs) Bool.false_ne_true
  | byt i =>
    obtain ⟨t, rfl⟩ := rx
    cases y with
    | byt j => obtain ⟨t', rfl⟩ := ry; exact PySem.W.ne_bytes (fin_bl I q (congrArg not dec_byt))
    | _ => exact absurd (show false = true from hs) Bool.false_ne_true
  | _ => cases y <;> exact absurd (show false = true from hs) Bool.false_ne_true
theorem op_lt : OpR X (compareOp .Lt) (rI0 fun i j => .bl (decide (i < j))) := opB0 fun _ _ _ _ _ _ _ q => lt_int q
theorem op_gt : OpR X (compareOp .Gt) (rI0 fun i j => .bl (decide (j < i))) := opB0 fun _ _ _ _ _ _ _ q => gt_int q
theorem op_isN : OpR X (compareOp .Is) (fun x y H Q => y = .non ∧ Q (.bl (decide (x = .non))) H) := by
  intro pins s σ H x y v u Q I rx ry h
  obtain ⟨rfl, q⟩ := h
  cases ry
  refine is_none_gen (fin_bl I q ?_)
  cases x <;> first
    | (cases rx; rfl)
    | (obtain ⟨t, rfl⟩ := rx; rfl)
theorem op_notN : OpR X (compareOp .IsNot) (fun x y H Q => y = .non ∧ Q (.bl (!decide (x = .non))) H) := by
  intro pins s σ H x y v u Q I rx ry h
  obtain ⟨rfl, q⟩ := h
  cases ry
  refine isnot_none_gen (fin_bl I q ?_)
  cases x <;> first
    | (cases rx; rfl)
    | (obtain ⟨t, rfl⟩ := rx; rfl)
theorem nomark (b : Expr) {op : CmpOp} (h : op ≠ .In := by decide) (h2 : op ≠ .NotIn := by decide) : behindInMarks op b = false := by
  have e1 : (op == CmpOp.In) = false := by cases op <;> first | rfl | exact absurd rfl h
  have e2 : (op == CmpOp.NotIn) = false := by cases op <;> first | rfl | exact absurd rfl h2
  cases b <;> simp [behindInMarks, e1, e2]
theorem pe_cmpR {op : CmpOp} {r : R2} (ho : OpR X (compareOp op) r) (ha : PE X a ta) (hb : PE X b tb) (hm : behindInMarks op b = false) : PE X (.Compare a [op] [b] pos) (tOp r ta tb) := by
  intro pins s σ H Q I h
  exact wpAny_Compare1 (binT ha hb I h fun v u s2 x y H2 I2 rx ry q => ho pins s2 σ H2 x y v u Q I2 rx ry q) hm
def tTest (t : TE) : TT := fun σ H Q => t σ H fun x H' => ∃ k, x = .bl k ∧ Q k H'
theorem pt_cmpR {op : CmpOp} {r : R2} (ho : OpR X (compareOp op) r) (ha : PE X a ta) (hb : PE X b tb) (hm : behindInMarks op b = false) : PT X (.Compare a [op] [b] pos) (tTest (tOp r ta tb)) := by
  intro pins s σ H Q I h
  refine wpAny_isTrue_Compare1 (thn (ha pins s σ H _ I h) fun v s1 ⟨x, H1, I1, r1, q1⟩ => thn (hb pins s1 σ H1 _ I1 q1) fun u s2 ⟨y, H2, I2, r2, q2⟩ =>
    thn (ho pins s2 σ H2 x y v u _ I2 r1 r2 q2) fun c s3 ⟨z, H3, I3, r3, k, e, q3⟩ => ?_) hm
  subst e
  cases r3
  exact wpAny_truthy_bool ⟨H3, I3, q3⟩
def TruV (K : PySem.W.Frag) (x : V) (H : Hp) (k : Bool) : Prop :=
  match x with
  | .non => k = false
  | .bl b => k = b
  | .int i => k = (i != 0)
  | .str y => y.length ≤ sizeLine ∧ k = ((y.length : Int) != 0)
  | .byt y => y.size ≤ sizeLine ∧ k = ((y.size : Int) != 0)
  | .ref p => (∃ xs, SqL K H p xs ∧ k = !xs.isEmpty) ∨ (∃ xs, SqT K H p xs ∧ k = !xs.isEmpty) ∨ ∃ kvs, H p = some (.dK kvs) ∧ k = !kvs.isEmpty
  | _ => False
theorem isEmpty_kv {κ : Type} {kvs : List (κ × V)} {vs : List (κ × Value)} (r : KV kvs vs) : (!vs.isEmpty) = !kvs.isEmpty := by
  cases r <;> rfl
theorem isEmpty_of {xs : List V} {its : List Value} (r : Vals xs its) : (!its.toArray.isEmpty) = !xs.isEmpty := by
  cases r <;> simp
theorem line63 : (sizeLine : Nat) < 2 ^ 63 := by rw [sizeLine_eq]; decide
theorem tru_ok : TruR X (fun x H Q => ∃ k, TruV X.K x H k ∧ Q k H) := by
  intro pins s σ H x v Q I rx h
  obtain ⟨k, e, q⟩ := h
  have hl := line63
  have hs : sizeLine = 16777216 := sizeLine_eq
  cases x with
  | non =>
    cases rx
    have e' : k = false := e
    subst e'
    exact truthy_none ⟨H, I, q⟩
  | bl b =>
    cases rx
    have e' : k = b := e
    subst e'
    exact wpAny_truthy_bool ⟨H, I, q⟩
  | int i =>
    obtain ⟨t, rfl⟩ := rx
    have e' : k = (i != 0) := e
    subst e'
    exact PySem.P.truthy_int ⟨H, I, q⟩
  | str y =>
    obtain ⟨t, rfl⟩ := rx
    obtain ⟨hy, e'⟩ : y.length ≤ sizeLine ∧ k = ((y.length : Int) != 0) := e
    subst e'
    exact PySem.P.truthy_str (by omega) ⟨H, I.tok _, q⟩
  | byt y =>
    obtain ⟨t, rfl⟩ := rx
    obtain ⟨hy, e'⟩ : y.size ≤ sizeLine ∧ k = ((y.size : Int) != 0) := e
    subst e'
    exact PySem.W.truthy_bytes (by omega) ⟨H, I.tok _, q⟩
  | ref p =>
    cases rx
    have e' : (∃ xs, SqL X.K H p xs ∧ k = !xs.isEmpty) ∨ (∃ xs, SqT X.K H p xs ∧ k = !xs.isEmpty) ∨ ∃ kvs, H p = some (.dK kvs) ∧ k = !kvs.isEmpty := e
    rcases e' with ⟨xs, hx, e'⟩ | ⟨xs, hx, e'⟩ | ⟨kvs, hx, e'⟩
    · subst e'
      obtain ⟨its, r, pl, hz⟩ := I.list hx
      have hlen := r.length
      exact wpAny_truthy_list pl.isList (by simp only [List.size_toArray]; omega) ⟨H, I.tok _, by rw [isEmpty_of r]; exact q⟩
    · subst e'
      obtain ⟨its, r, pl, hz⟩ := I.tuple hx
      have hlen := r.length
      exact truthy_tuple pl (by simp only [List.size_toArray]; omega) ⟨H, I.tok _, by rw [isEmpty_of r]; exact q⟩
    · subst e'
      obtain ⟨hz, hS, vs, r, m⟩ : kvs.length ≤ sizeLine ∧ (p == sysModules) = false ∧ ∃ vs, KV kvs vs ∧ s.heap.DictOf (mixKind X.prog X.w) p vs := I.hok p _ hx
      have hlen : kvs.length = vs.length := Paired.length r
      exact wpAny_truthy_dict hS m (by omega) ⟨H, I.tok _, by rw [isEmpty_kv r]; exact q⟩
  | _ => exact (show False from e).elim
theorem pt_truth (ha : PE X a ta) (he : ∀ whole, isTrue a X.env whole = (do let v ← whole; standAt a.pos; holding [v] (truthy v))) :
    PT X a (fun σ H Q => ta σ H fun x H' => ∃ k, TruV X.K x H' k ∧ Q k H') := by
  intro pins s σ H Q I h
  exact isTrue_plain (thn (ha pins s σ H _ I h) fun v s1 ⟨x, H1, I1, r1, q1⟩ => tru_ok pins s1 σ H1 x v Q I1 r1 q1) (he _)
theorem vals1 {x : V} {us : List Value} (r : Vals [x] us) : ∃ u, us = [u] ∧ RelV x u := by
  cases r with
  | cons r1 r2 => cases r2; exact ⟨_, rfl, r1⟩
theorem vals2 {x y : V} {us : List Value} (r : Vals [x, y] us) : ∃ u w', us = [u, w'] ∧ RelV x u ∧ RelV y w' := by
  cases r with
  | cons r1 r2 =>
    cases r2 with
    | cons r3 r4 => cases r4; exact ⟨_, _, rfl, r1, r3⟩
end
end L2
namespace L2
open PySem PySem.Spec PyProof.Rows
structure ObjM (h : Heap) (x dx C : Addr) (mA : Str → Option Value) : Prop where
  obj : h.get? x = some (PySem.W.instObj C dx)
  ns : h.Ns1 dx mA
  ne : dx ≠ x
theorem lookIn_ns {h : Heap} {dx : Addr} {mA : Str → Option Value} (n : h.Ns1 dx mA) : ∃ od, h.get? dx = some od ∧ ∀ name, PySem.W.lookIn name od = some (mA name) := by
  obtain ⟨o, es, ep, ho, hd, hk, _, hm⟩ := n
  refine ⟨o, ho, fun name => ?_⟩
  have e := hm name
  unfold nsFind findBy at e
  rw [← Array.find?_toList] at e
  unfold PySem.W.lookIn
  rw [hd]
  dsimp only
  split
  · rename_i y q
    rw [q] at e
    exact congrArg some e
  · rename_i q
    rw [q] at e
    have a : es.toList.any (·.refKey) = false := by
      rw [List.any_eq_false]
      intro y hy
      obtain ⟨z, t, hkey⟩ := hk y (Array.mem_toList_iff.mp hy)
      simp [DictEntry.refKey, hkey]
    have a' : ¬ es.toList.any (·.refKey) = true := by rw [a]; exact Bool.false_ne_true
    rw [if_neg a']
    exact congrArg some e
theorem ObjM.look {h : Heap} {x dx C : Addr} {mA : Str → Option Value} (I : ObjM h x dx C mA) : ∃ od, PySem.W.InstAt h x (PySem.W.instObj C dx) C (some od) ∧ ∀ name, PySem.W.lookIn name od = some (mA name) :=
  let ⟨od, ho, hl⟩ := lookIn_ns I.ns
  ⟨od, ⟨I.obj, rfl, rfl, ho⟩, hl⟩
section
variable {prog : Program} {w : World} {A : Around} {E : Value → Shared → Prop} {s : Shared} {K : PySem.W.Frag} {x dx C f : Addr} {mA : Str → Option Value} {name : Str} {v : Value}
theorem get_map {expr : Bool} {Q : Value → Shared → Prop} (X : K.In s.heap) (I : ObjM s.heap x dx C mA) (hg : PySem.W.plainGet K C name = true) (hh : PySem.W.hasDictIn K C = true)
    (ha : PySem.W.findIn K (.ref C) name = some none) (hv : mA name = some v) (hv' : PySem.W.handedIn v = true) (h : Q v { s with toks := s.toks + 1 }) :
    wpAny (model prog w) A (getAttr (.ref x) name expr) Q E s := by
  obtain ⟨od, J, hl⟩ := I.look
  exact PySem.W.get_value X J (PySem.W.plainGet_of hg).1 (PySem.W.findObj_own hh ha rfl (by rw [hl, hv])) hv' h
theorem set_map {ns : List Str} {Q : Unit → Shared → Prop} (X : K.In s.heap) (I : ObjM s.heap x dx C mA)
    (hs : PySem.W.findIn K (.ref C) "__setattr__" = some (some (.builtin "object.__setattr__"))) (hp : PySem.W.plainOver K C = true) (ht : PySem.W.takerIn K C name = some none) (hh : PySem.W.hasDictIn K C = true)
    (hw : PySem.Within mA ns) (hsz : ns.length ≤ sizeLine)
    (h : ∀ h', ObjM h' x dx C (fun y => if y = name then some v else mA y) → Heap.SameBut dx s.heap h' → Q () { s with heap := h', toks := s.toks + 2 }) :
    wpAny (model prog w) A (setAttr (.ref x) name v) Q E s := by
  obtain ⟨od, J, hl⟩ := I.look
  refine PySem.W.set_plain X J hs (PySem.W.osa_open (s := { s with toks := s.toks + 1 }) (r := none) X J hp ht fun b => ?_)
  obtain ⟨cd, hc, hd'⟩ := PySem.W.any_some hh
  have hx : s.heap.get? x = some ⟨.ref C, some dx, .plain, #[]⟩ := I.obj
  refine wpAny_bind (wpAny_pure (wpAny_bind (wpAny_bind (wpAny_loadPart hx (wpAny_bind (PySem.W.Looks.here (s := { s with toks := s.toks + 1 }) (PySem.W.looks_clsIn X hc) ?_))))))
  rw [hd']
  refine wpAny_pure (a := some dx) (wpAny_bind (wpAny_pure (wpAny_bind ?_)))
  refine wpAny_nsSet1 (s := { s with toks := s.toks + 1 }) I.ns fun h' hn2 hs2 => ?_
  obtain ⟨oD, esD, epD, hoD, hdD, hcD⟩ := hn2.count (PySem.Within.cons name v hw)
  refine wpAny_bind (wpAny_lookBehind hoD (by rw [hdD]; exact pastItsLine_dict (Nat.le_trans hcD (by rw [List.length_cons]; omega))) ?_)
  exact wpAny_pure (h _ ⟨(hs2.2 _ (Ne.symm I.ne)).trans I.obj, hn2, I.ne⟩ hs2)
end
section
variable {P : Program} {w : World} {H H' : Hp} {h h' : Heap} {a C dx : Addr} {fs fs' : List (Str × V)}
theorem ins_get (hok : HOk P w H h) (e : H a = some (.ins C dx fs)) : ∃ mA, ObjM h a dx C mA ∧ (∀ f, RelO (fs.lookup f) (mA f)) ∧ PySem.Within mA (fs.map (·.1)) ∧ fs.length ≤ 1000 ∧ H dx = some (.own a) := by
  obtain ⟨d, z, ne, ob, mA, n, r, q⟩ := (show ObjOk P w H h a (.ins C dx fs) from hok a _ e)
  exact ⟨mA, ⟨ob, n, ne⟩, r, q, z, d⟩
end
structure Cls (K : PySem.W.Frag) (C : Addr) : Prop where
  pg : PySem.W.plainGet K C Str.empty = true
  hd : PySem.W.hasDictIn K C = true
  po : PySem.W.plainOver K C = true
  sa : PySem.W.findIn K (.ref C) "__setattr__" = some (some (.builtin "object.__setattr__"))
theorem Cls.get {K : PySem.W.Frag} {C : Addr} (c : Cls K C) (f : Str) : PySem.W.plainGet K C f = true := c.pg
structure Con (K : PySem.W.Frag) (C : Addr) (f : Str) (v : V) (u : Value) : Prop where
  at_ : PySem.W.findIn K (.ref C) f = some (some u)
  rel : RelV v u
  get : PySem.W.specialIn K u "__get__" = some none
  cp : PySem.W.copiedNames.contains f = false
structure Meth (K : PySem.W.Frag) (C : Addr) (m : Str) (f : Addr) : Prop where
  at_ : PySem.W.findIn K (.ref C) m = some (some (.ref f))
  fn : PySem.W.isFn K (.ref f) = true
  kp : PySem.W.keepIn K (.ref f) = true
section
variable {X : Cx} {pins : List (Addr × Obj)} {σ : St} {H : Hp} {s : Shared} {a C dx : Addr} {fs : List (Str × V)} {f : Str} {v : V} {A : Around} {E : Value → Shared → Prop}
theorem Inv.made (I : Inv X pins σ H s) : Inv X pins σ (upd (upd H s.heap.objs.size (.own (s.heap.objs.size + 1))) (s.heap.objs.size + 1) (.ins C s.heap.objs.size []))
    { s with heap := (s.heap.push PySem.W.emptyDict).push (PySem.W.instObj C s.heap.objs.size) } := by
  have e1 : (s.heap.push PySem.W.emptyDict).get? s.heap.objs.size = some PySem.W.emptyDict := Heap.get?_push_size s.heap rfl
  have e2 : ((s.heap.push PySem.W.emptyDict).push (PySem.W.instObj C s.heap.objs.size)).get? (s.heap.objs.size + 1) = some (PySem.W.instObj C s.heap.objs.size) := by
    have := Heap.get?_push_size (s.heap.push PySem.W.emptyDict) (o := PySem.W.instObj C s.heap.objs.size) rfl
    rwa [Heap.size_push] at this
  have e3 : (s.heap.push PySem.W.emptyDict).Ns s.heap.objs.size (fun _ => none) := ⟨PySem.W.emptyDict, #[], _, e1, rfl, (fun e he => absurd he (by simp)), fun _ => rfl⟩
  have I1 := I.laid (a := s.heap.objs.size) (o := .own (s.heap.objs.size + 1)) (h' := s.heap.push PySem.W.emptyDict) (t' := s.toks) (fun b u q => Heap.get?_push_of_some _ q) (Nat.le_refl _) ⟨_, e1⟩
  refine I1.laid (a := s.heap.objs.size + 1) (o := .ins C s.heap.objs.size []) (t' := s.toks) (fun b u q => Heap.get?_push_of_some _ q) (Nat.le_of_eq (Heap.size_push _ _)) ?_
  have ne : s.heap.objs.size ≠ s.heap.objs.size + 1 := Nat.ne_of_lt (Nat.lt_succ_self _)
  refine ⟨by rw [upd_ne ne, upd_same], Nat.zero_le _, ne, e2, fun _ => none, (Heap.Ns1.of_empty e3).at fun o q => Heap.get?_push_of_some _ q, fun _ => True.intro, fun y hy => absurd rfl hy⟩
end
section
variable {X : Cx} {o e value : Expr} {f : Str} {pos pos' tpos : Pos} {ta tv : TE}
end
section
variable {X : Cx} {pins : List (Addr × Obj)} {σ : St} {H : Hp} {s : Shared} {A : Around} {E : Value → Shared → Prop} {Q : Value → Shared → Prop} {c : Value} {b : Bool}
inductive TyOf (K : PySem.W.Frag) (H : Hp) : V → Value → Prop where
  | non : TyOf K H .non (.type "NoneType")
  | bl (x : Bool) : TyOf K H (.bl x) (.type "bool")
  | int (i : Int) : TyOf K H (.int i) (.type "int")
  | str (x : Str) : TyOf K H (.str x) (.type "str")
  | flt (x : UInt64) : TyOf K H (.flt x) (.type "float")
  | lst {a : Addr} {xs : List V} (e : H a = some (.lst xs)) : TyOf K H (.ref a) (.type "list")
  | frz {a : Addr} {o : Obj} {xs : List V} (e : H a = some (.frz o (.lst xs))) : TyOf K H (.ref a) (.type "list")
  | tup {a : Addr} {xs : List V} (e : H a = some (.tup xs)) : TyOf K H (.ref a) (.type "tuple")
  | dK {a : Addr} {kvs : List (Key × V)} (e : H a = some (.dK kvs)) : TyOf K H (.ref a) (.type "dict")
  | dT {a : Addr} {kvs : List (List Key × V)} (e : H a = some (.dT kvs)) : TyOf K H (.ref a) (.type "dict")
  | ins {a C dx : Addr} {fs : List (Str × V)} (e : H a = some (.ins C dx fs)) (cl : Cls K C) (ha : PySem.W.findIn K (.ref C) "__class__" = some (some (.builtin "object.__class__")))
      (hn : PySem.W.specialIn K (.builtin "object.__class__") "__get__" = some (some (.builtin "getset_descriptor.__get__"))) (htk : PySem.W.takesIn K (.builtin "object.__class__") = some true)
      (hm : PySem.W.mroIn K C (.type "object") = some true) : TyOf K H (.ref a) (.ref C)
theorem isinst_ok {x : V} {u t : Value} (I : Inv X pins σ H s) (rx : RelV x u) (ty : TyOf X.K H x t) (e : PySem.W.kitOne X.K t c = some b) (h : ∀ tk, Q (.bool b) { s with toks := tk }) :
    wpAny (model X.prog X.w) A (call (.builtin "isinstance") [u, c]) Q E s := by
  cases ty with
  | non => cases (show u = Value.none from rx); exact PySem.W.kia_one PySem.W.kitx_none I.kIn True.intro e (fun z => nomatch z) h
  | bl y => cases (show u = Value.bool y from rx); exact PySem.W.kia_one PySem.W.kitx_bool I.kIn True.intro e (fun z => nomatch z) h
  | int i => obtain ⟨t, q⟩ := (show ∃ t, u = Value.int i t from rx); cases q; exact PySem.W.kia_one PySem.W.kitx_int I.kIn True.intro e (fun z => nomatch z) h
  | str y => obtain ⟨t, q⟩ := (show ∃ t, u = Value.str y t from rx); cases q; exact PySem.W.kia_one PySem.W.kitx_str I.kIn True.intro e (fun z => nomatch z) h
  | flt y => obtain ⟨t, q⟩ := (show ∃ t, u = Value.float y t from rx); cases q; exact PySem.W.kia_one PySem.W.kitx_float I.kIn True.intro e (fun z => nomatch z) h
  | @lst a xs ea =>
    cases (show u = Value.ref a from rx)
    obtain ⟨_, _, n, _, h1⟩ := (show ObjOk X.prog X.w H s.heap a (.lst xs) from I.hok a _ ea)
    exact PySem.W.kia_one PySem.W.kitx_list I.kIn ⟨_, h1, rfl⟩ e (fun z => nomatch z) h
  | @frz a ob xs ea =>
    cases (show u = Value.ref a from rx)
    obtain ⟨_, _, _, n, _, h1⟩ := (show ObjOk X.prog X.w H s.heap a (.frz ob (.lst xs)) from I.hok a _ ea)
    exact PySem.W.kia_one PySem.W.kitx_list I.kIn ⟨_, h1, rfl⟩ e (fun z => nomatch z) h
  | @tup a xs ea =>
    cases (show u = Value.ref a from rx)
    obtain ⟨_, _, _, p⟩ := (show ObjOk X.prog X.w H s.heap a (.tup xs) from I.hok a _ ea)
    obtain ⟨o, h1, h2, _⟩ := p
    exact PySem.W.kia_one PySem.W.kitx_tuple I.kIn ⟨o, h1, h2⟩ e (fun z => nomatch z) h
  | @dK a kvs ea =>
    cases (show u = Value.ref a from rx)
    obtain ⟨_, _, vs, _, p⟩ := (show ObjOk X.prog X.w H s.heap a (.dK kvs) from I.hok a _ ea)
    obtain ⟨o, es, ep, h1, h2, _⟩ := p
    exact PySem.W.kia_one PySem.W.kitx_dict I.kIn ⟨o, h1, h2.1⟩ e (fun z => nomatch z) h
  | @dT a kvs ea =>
    cases (show u = Value.ref a from rx)
    obtain ⟨_, _, xs, _, o, es, ep, h1, h2, _⟩ := (show ObjOk X.prog X.w H s.heap a (.dT kvs) from I.hok a _ ea)
    exact PySem.W.kia_one PySem.W.kitx_dict I.kIn ⟨o, h1, h2.1⟩ e (fun z => nomatch z) h
  | @ins a C dx fs ea cl ha hn htk hm =>
    cases (show u = Value.ref a from rx)
    obtain ⟨mA, O, _⟩ := ins_get I.hok ea
    obtain ⟨od, J, _⟩ := O.look
    exact PySem.W.kia_one (PySem.W.kitx_own (cl.get _) cl.hd ha hn htk hm) I.kIn J e (fun z => nomatch z) h
end
end L2
namespace L2
open PySem PySem.Spec PyProof.Rows
structure Room (k : Nat) (A : Around) : Prop where
  hd : A.handled = none
  dp : A.depth + 3 * k + 5 < recursionLimit
  un : A.units + 16 * k + 200 < cLine
theorem Room.mono {j k : Nat} {A : Around} (r : Room k A) (h : j ≤ k) : Room j A := ⟨r.hd, by have := r.dp; omega, by have := r.un; omega⟩
theorem Room.deeper {k : Nat} {A : Around} (r : Room (k + 1) A) (env : Env) : Room k (A.deeper env) :=
  ⟨r.hd, by have := r.dp; show A.depth + 1 + 3 * k + 5 < _; omega, by have := r.un; show A.units + 3 + 16 * k + 200 < _; omega⟩
theorem Room.in1 {k : Nat} {A : Around} (r : Room (k + 1) A) : Room k A.in1 :=
  ⟨r.hd, by have := r.dp; show A.depth + 3 * k + 5 < _; omega, by have := r.un; show A.units + 1 + 16 * k + 200 < _; omega⟩
theorem Room.depth {k : Nat} {A : Around} (r : Room k A) : A.depth < recursionLimit := by have := r.dp; omega
theorem Room.units {k : Nat} {A : Around} (r : Room k A) : A.units + 64 < cLine := by have := r.un; omega
def tNil : TA := fun _ H Q => Q [] H
def tCons (ta : TE) (tr : TA) : TA := fun σ H Q => ta σ H fun x H1 => tr σ H1 fun xs H2 => Q (x :: xs) H2
section
variable {X : Cx} {e : Expr} {es : List Expr} {te : TE} {t : TA} {pos : Pos}
theorem pa_nil : PA X [] tNil := fun _ _ _ _ H Q I h => Calls.spliced_nil ⟨[], H, I, .nil, h⟩
theorem pa_cons (ha : PE X e te) (hr : PA X es t) (hs : starEach (e :: es) X.env = (false, eval e X.env) :: starEach es X.env := by rfl) : PA X (e :: es) (tCons te t) := by
  intro pos pins s σ H Q I h
  rw [hs]
  show wpAny _ _ (spliced ((false, eval e X.env) :: backTo pos (starEach es X.env))) _ _ s
  refine Calls.spliced_cons (thn (ha pins s σ H _ I h) fun u s1 ⟨x, H1, I1, r1, q1⟩ => ?_)
  exact thn (hr pos pins s1 σ H1 _ I1 q1) fun us s2 ⟨xs, H2, I2, r2, q2⟩ => ⟨x :: xs, H2, I2, .cons r1 r2, q2⟩
def tLst (t : TA) : TE := fun σ H Q => t σ H fun xs H1 => xs.length ≤ sizeLine ∧ ∀ p, H1 p = none → Q (.ref p) (upd H1 p (.lst xs))
theorem pe_lst (h : PA X es t) : PE X (.List es pos) (tLst t) := by
  intro pins s σ H Q I hq
  refine wpAny_List_spliced (thn (h pos pins s σ H _ I hq) fun us s1 ⟨xs, H1, I1, r, z, q⟩ => ⟨by rw [← r.length]; exact z, ?_⟩)
  have hf : H1 s1.heap.objs.size = none := I1.hok.fresh (Nat.le_refl _)
  refine ⟨.ref s1.heap.objs.size, upd H1 s1.heap.objs.size (.lst xs), I1.laid (t' := s1.toks) (fun b u e => Heap.get?_push_of_some _ e) (Nat.le_refl _) ?_, rfl, q _ hf⟩
  exact ⟨z, us, 0, r, Heap.get?_push_size _ rfl⟩
end
abbrev Sp := List V → Hp → VK → XK → Prop
abbrev CXT := List Env → Hp → Shared → XK → Value → Shared → Prop
structure Env0 (P : Program) (w : World) (K : PySem.W.Frag) (mg : Str → Option Value) (base : Heap) (A : Around) (outer : List Env) (s : Shared) (H : Hp) : Prop where
  frames : A.frames = some outer
  mod : Mod K mg base
  bs : ∀ b o, base.get? b = some o → s.heap.get? b = some o ∧ H b = none
  bsz : base.objs.size ≤ s.heap.objs.size
  funs : s.heap.FunFrames base outer
  frf : ∀ b ∈ frs outer, H b = none
  hok : HOk P w H s.heap
  bare : AllBare s.gens
def CE (outer : List Env) (P : Program) (w : World) (H : Hp) (s : Shared) (Q : VK) (u : Value) (s' : Shared) : Prop :=
  ∃ v H', s'.os = s.os ∧ AllBare s'.gens ∧ Un (frs outer) [] H H' s.heap s'.heap ∧ HOk P w H' s'.heap ∧ RelV v u ∧ Q v H'
def CR (CX : CXT) (outer : List Env) (P : Program) (w : World) (H : Hp) (s : Shared) (Q : VK) (E : XK) (r : Result) (s' : Shared) : Prop :=
  match r with
  | .ok (.ret u) => CE outer P w H s Q u s'
  | .ok _ => False
  | .error e => CX outer H s E e s'
structure FnOk (P : Program) (w : World) (K : PySem.W.Frag) (mg : Str → Option Value) (base : Heap) (CX : CXT) (k : Nat) (f : Addr) (fd : FuncData) (ps : List Str) (sp : Sp) : Prop where
  len : ∀ vs H Q E, sp vs H Q E → vs.length = ps.length
  run : ∀ (A : Around) (outer : List Env) (s : Shared) (H : Hp) (args : Args) (us : List Value) (vs : List V) (Q : VK) (E : XK), Room k A → Env0 P w K mg base A outer s H → BindsTo s fd args (ps.zip us) → Vals vs us → sp vs H Q E →
    codeAny (model P w) A (.call (.ref f) args) (CR CX outer P w H s Q E) s
theorem FnOk.mono {P : Program} {w : World} {K : PySem.W.Frag} {mg : Str → Option Value} {base : Heap} {CX : CXT} {j k : Nat} {f : Addr} {fd : FuncData} {ps : List Str} {sp : Sp} (F : FnOk P w K mg base CX j f fd ps sp) (h : j ≤ k) :
    FnOk P w K mg base CX k f fd ps sp := ⟨F.len, fun A outer s H args us vs Q E hr => F.run A outer s H args us vs Q E (hr.mono h)⟩
theorem FnOk.imp {P : Program} {w : World} {K : PySem.W.Frag} {mg : Str → Option Value} {base : Heap} {CX : CXT} {k : Nat} {f : Addr} {fd : FuncData} {ps : List Str} {sp sp' : Sp} (F : FnOk P w K mg base CX k f fd ps sp)
    (h : ∀ vs H Q E, sp' vs H Q E → sp vs H Q E) : FnOk P w K mg base CX k f fd ps sp' :=
  ⟨fun vs H Q E q => F.len vs H Q E (h _ _ _ _ q), fun A outer s H args us vs Q E hr he hb hv hs => F.run A outer s H args us vs Q E hr he hb hv (h _ _ _ _ hs)⟩
theorem Env0.in1 {P : Program} {w : World} {K : PySem.W.Frag} {mg : Str → Option Value} {base : Heap} {A : Around} {outer : List Env} {s : Shared} {H : Hp} (e : Env0 P w K mg base A outer s H) :
    Env0 P w K mg base A.in1 outer s H := ⟨e.frames, e.mod, e.bs, e.bsz, e.funs, e.frf, e.hok, e.bare⟩
section
variable {X : Cx} {pins : List (Addr × Obj)} {σ : St} {H : Hp} {s s' : Shared}
theorem Inv.env0 (I : Inv X pins σ H s) : Env0 X.prog X.w X.K X.mg X.base X.A X.stack s H :=
  ⟨I.ok.frames, I.ok.mod, I.bs, Nat.le_trans I.ok.bsz I.sz, I.stack, I.stkFree, I.hok, I.bare⟩
theorem Inv.after {Q : VK} {u : Value} (I : Inv X pins σ H s) (h : CE X.stack X.prog X.w H s Q u s') : EP X pins σ Q u s' := by
  obtain ⟨v, H', os, bare, un, hok, r, q⟩ := h
  obtain ⟨hh, g, d, t, os'⟩ := s'
  obtain rfl : os' = s.os := os
  exact ⟨v, H', I.call (h' := hh) (g' := g) (d' := d) (t' := t) (ch := []) un hok bare (fun b z => absurd z (by simp)), r, q⟩
end
def tCall (sp : Sp) (dvs : List V) (E : XK) (t : TA) : TE := fun σ H Q => t σ H fun vs H1 => sp (vs ++ dvs) H1 Q E
def Binds (K : PySem.W.Frag) (fd : FuncData) (ps : List Str) (ds : List Value) : Prop :=
  ∀ (s : Shared) (us : List Value), K.In s.heap → (us ++ ds).length = ps.length → BindsTo s fd ⟨us, []⟩ (ps.zip (us ++ ds))
theorem Binds.all {K : PySem.W.Frag} {fd : FuncData} {ps : List Str} (h : ∀ us : List Value, us.length = ps.length → bindArgs fd ⟨us, []⟩ = pure (ps.zip us)) : Binds K fd ps [] := fun s us _ hl => by
  rw [List.append_nil] at hl ⊢
  exact .of_eq (h us hl)
def Passes (CX : CXT) (X : Cx) (E : XK) : Prop := ∀ (pins : List (Addr × Obj)) (σ : St) (H : Hp) (s : Shared) (e : Value) (s' : Shared), Inv X pins σ H s → CX X.stack H s E e s' → X.xe e s'
section
variable {X : Cx} {CX : CXT} {k : Nat} {f C : Addr} {fd : FuncData} {ps : List Str} {sp : Sp} {dvs : List V} {ds : List Value} {E : XK} {x m : Str} {p pos apos : Pos} {e o : Expr} {es : List Expr} {ta : TE} {t : TA}
theorem run_fn {pins : List (Addr × Obj)} {σ : St} {H : Hp} {s : Shared} {Q : VK} {us : List Value} {vs : List V} (F : FnOk X.prog X.w X.K X.mg X.base CX k f fd ps sp) (hr : Room k X.A) (hb : Binds X.K fd ps ds) (hd : Vals dvs ds) (hx : Passes CX X E)
    (I : Inv X pins σ H s) (r : Vals vs us) (h : sp (vs ++ dvs) H Q E) : wpAny (model X.prog X.w) X.A (call (.ref f) us) (EP X pins σ Q) X.xe s := by
  have r2 : Vals (vs ++ dvs) (us ++ ds) := r.append hd
  have hl : (us ++ ds).length = ps.length := by rw [← r2.length]; exact F.len _ _ _ _ h
  refine wpAny_call (codeAny_mono (F.run X.A X.stack s H ⟨us, []⟩ (us ++ ds) (vs ++ dvs) Q E hr I.env0 (hb s us I.kIn hl) r2 h) fun r s' hq => ?_)
  cases r with
  | error e => exact hx pins σ H s e s' I hq
  | ok fl =>
    cases fl with
    | ret u => exact I.after hq
    | next => exact False.elim hq
    | brk => exact False.elim hq
    | cont => exact False.elim hq
theorem pe_call (F : FnOk X.prog X.w X.K X.mg X.base CX k f fd ps sp) (hr : Room k X.A) (hg : Gl X x) (hm : X.mg x = some (.ref f)) (hk : PySem.W.keepIn X.K (.ref f) = true) (hb : Binds X.K fd ps ds) (hd : Vals dvs ds) (hx : Passes CX X E)
    (ha : PA X (e :: es) t) (hdb : (x == ("__debug__" : Str)) = false := by decide) (he : starEach (e :: es) X.env = (false, eval e X.env) :: starEach es X.env := by rfl) (hpl : (backTo pos (starEach es X.env)).any (·.1) = false := by rfl) :
    PE X (.Call (.Name x p) (e :: es) [] pos) (tCall sp dvs E t) := by
  intro pins s σ H Q I h
  refine wpAny_Call_Name_kw (ld_glob I hg hm ?_ hdb)
  refine PySem.W.callWith_K (h₀ := X.base) I.ok.mod.kin hk (thn (ha pos pins s σ H _ I h) fun us s1 ⟨vs, H1, I1, r, q⟩ => ⟨I1.kIn, ?_⟩) he hpl
  exact run_fn F hr hb hd hx I1 r q
structure Mk (K : PySem.W.Frag) (C f : Addr) : Prop where
  makes : PySem.W.makesIn K C = true
  init : PySem.W.findIn K (.ref C) "__init__" = some (some (.ref f))
  fn : PySem.W.isFn K (.ref f) = true
  kp : PySem.W.keepIn K (.ref C) = true
end
section
variable {X : Cx} {CX : CXT} {k : Nat} {f C : Addr} {fd : FuncData} {ps ks : List Str} {sp : Sp} {E : XK} {x m : Str} {p pos apos kpos : Pos} {e o : Expr} {es : List Expr} {kws : List Keyword} {te ta : TE} {t tk : TA} {nm : Option Str}
structure KBinds (K : PySem.W.Frag) (fd : FuncData) (ps ks : List Str) (g : List Value → List Value → List Value) (gV : List V → List V → List V) : Prop where
  to : ∀ (s : Shared) (us ws : List Value), K.In s.heap → (g us ws).length = ps.length → BindsTo s fd ⟨us, ks.zip ws⟩ (ps.zip (g us ws))
  rel : ∀ {vs : List V} {us : List Value} {zs : List V} {ws : List Value}, Vals vs us → Vals zs ws → Vals (gV vs zs) (g us ws)
variable {g : List Value → List Value → List Value} {gV : List V → List V → List V}
end
structure FnScope (N P : List Str) (sc : Scope) : Prop where
  kind : sc.kind = .function
  co : sc.isCoroutine = false
  gen : sc.isGenerator = false
  nd : N.Nodup
  pre : N.take P.length = P
  par : ∀ x ∈ P, sc.names.lookup x = some .local ∨ sc.names.lookup x = some .cell
  nofree : ∀ y ∈ sc.names, y.2 ≠ .free
theorem bindL_out {kindOf : Str → Option NameKind} {x : Str} : ∀ {binds : List (Str × Value)} {m : Str → Option Value}, (∀ v, (x, v) ∉ binds) → bindL kindOf binds m x = m x
  | [], _, _ => rfl
  | (n, v) :: r, m, h => by
    unfold bindL
    rw [bindL_out fun w hw => h w (List.mem_cons_of_mem _ hw)]
    split
    · have : x ≠ n := by rintro rfl; exact h v List.mem_cons_self
      simp [this]
    · rfl
theorem bindC_out {kindOf : Str → Option NameKind} {x : Str} : ∀ {binds : List (Str × Value)} {m : Str → Option Value}, (∀ v, (x, v) ∉ binds) → bindC kindOf binds m x = m x
  | [], _, _ => rfl
  | (n, v) :: r, m, h => by
    unfold bindC
    rw [bindC_out fun w hw => h w (List.mem_cons_of_mem _ hw)]
    split
    · rfl
    · have : x ≠ n := by rintro rfl; exact h v List.mem_cons_self
      simp [this]
theorem bindL_get {kindOf : Str → Option NameKind} {x : Str} {v : Value} : ∀ {P : List Str} {vs : List Value} {i : Nat} {m : Str → Option Value}, P.Nodup → P[i]? = some x → vs[i]? = some v → kindOf x = some .local →
    bindL kindOf (P.zip vs) m x = some v
  | [], _, _, _, _, h, _, _ => by simp at h
  | _ :: _, [], _, _, _, _, h, _ => by simp at h
  | p :: P, w :: vs, 0, m, nd, h1, h2, hk => by
    simp at h1 h2; subst h1; subst h2
    show bindL kindOf ((p, w) :: P.zip vs) m p = _
    unfold bindL
    rw [bindL_out fun v hv => (List.nodup_cons.mp nd).1 (List.of_mem_zip hv).1, if_pos hk]
    simp
  | p :: P, w :: vs, i + 1, m, nd, h1, h2, hk => by
    show bindL kindOf ((p, w) :: P.zip vs) m x = _
    unfold bindL
    exact bindL_get (i := i) (List.nodup_cons.mp nd).2 (by simpa using h1) (by simpa using h2) hk
theorem bindC_get {kindOf : Str → Option NameKind} {x : Str} {v : Value} : ∀ {P : List Str} {vs : List Value} {i : Nat} {m : Str → Option Value}, P.Nodup → P[i]? = some x → vs[i]? = some v → kindOf x ≠ some .local →
    bindC kindOf (P.zip vs) m x = some v
  | [], _, _, _, _, h, _, _ => by simp at h
  | _ :: _, [], _, _, _, _, h, _ => by simp at h
  | p :: P, w :: vs, 0, m, nd, h1, h2, hk => by
    simp at h1 h2; subst h1; subst h2
    show bindC kindOf ((p, w) :: P.zip vs) m p = _
    unfold bindC
    rw [bindC_out fun v hv => (List.nodup_cons.mp nd).1 (List.of_mem_zip hv).1, if_neg hk]
    simp
  | p :: P, w :: vs, i + 1, m, nd, h1, h2, hk => by
    show bindC kindOf ((p, w) :: P.zip vs) m x = _
    unfold bindC
    exact bindC_get (i := i) (List.nodup_cons.mp nd).2 (by simpa using h1) (by simpa using h2) hk
def start (N : List Str) (vs : List V) : St := vs.map some ++ List.replicate (N.length - vs.length) none
def cxOf (CX : CXT) (P : Program) (w : World) (K : PySem.W.Frag) (mg : Str → Option Value) (base : Heap) (N : List Str) (qual : Str) (scope : Scope) (f : Addr) (cd : Value) (A : Around) (outer : List Env) (s : Shared) (H : Hp) (E : XK) : Cx where
  prog := P
  w := w
  K := K
  mg := mg
  base := base
  A := A.deeper (envOfC qual scope s.heap.objs.size f cd)
  N := N
  s₀ := s
  H₀ := H
  env := envOfC qual scope s.heap.objs.size f cd
  outer := outer
  stack := envOfC qual scope s.heap.objs.size f cd :: outer
  ex := []
  calm := true
  fn := fun _ => true
  pn := []
  xe := fun e s' => wpAny (model P w) (A.deeper (envOfC qual scope s.heap.objs.size f cd)) (leaving (envOfC qual scope s.heap.objs.size f cd) e) (fun _ s'' => CX outer H s E e s'') (fun e' s'' => CX outer H s E e' s'') s'
theorem cell_has {sc : Scope} {n : Nat} {x : Str} (h : sc.names.lookup x = some .cell) : ∃ c, (cellsFrom n sc.names []).lookup x = some c := by
  have q := PySem.W.cellsFrom_some sc.names n [] (.inl h)
  exact Option.isSome_iff_exists.mp q
theorem inv_start {CX : CXT} {P : Program} {w : World} {K : PySem.W.Frag} {mg : Str → Option Value} {base : Heap} {N ps : List Str} {qual : Str} {scope : Scope} {f : Addr} {cd : Value} {A : Around} {outer : List Env} {s s1 : Shared} {H : Hp} {E : XK} {us : List Value} {vs : List V}
    (S : FnScope N ps scope) (hd : A.handled = none) (e0 : Env0 P w K mg base A outer s H) (hl : vs.length = ps.length) (r : Vals vs us)
    (x : InCallC s s.heap.objs.size (bindL (envOfC qual scope s.heap.objs.size f cd).kindOf (ps.zip us) fun _ => none) (cellsFrom (s.heap.objs.size + 1) scope.names []) (bindC (envOfC qual scope s.heap.objs.size f cd).kindOf (ps.zip us) fun _ => none) s1) :
    Inv (cxOf CX P w K mg base N qual scope f cd A outer s H E) [] (start N vs) H s1 := by
  have hpl : ps.length ≤ N.length := by have := congrArg List.length S.pre; rw [List.length_take] at this; omega
  obtain ⟨h1, tk, rfl, hk⟩ := x.done
  have noA : ∀ b : Addr, b ∉ (cxOf CX P w K mg base N qual scope f cd A outer s H E).ex := fun b z => absurd (show b ∈ ([] : List Addr) from z) (by simp)
  refine ⟨⟨e0.mod, S.kind, rfl, rfl, Nat.le_refl _, fun y z c h1 h2 => ?_, fun y hy => ?_, fun y c _ h => ?_, fun _ => hd, Around.frames_deeper e0.frames, .inr ⟨rfl, rfl⟩, fun b z => absurd z (noA b), e0.bs, e0.bsz, fun b _ _ => noA b, fun b z => absurd z (noA b), e0.funs, e0.frf⟩,
    rfl, e0.bare, Un.kept hk, ⟨_, x.toInCall.ns, fun i y v h1 h2 h3 => ?_⟩, fun y c h => ⟨_, x.cell y c h⟩, e0.hok.fresh (Nat.le_refl _), fun y c h => ?_, fun p hp => absurd (show p ∈ ([] : List (Addr × Obj)) from hp) (by simp), e0.hok.kept hk, ?_⟩
  · exact name_of_addr x.apart (PySem.mem_of_lookup h1) (PySem.mem_of_lookup h2)
  · have hy : scope.names.lookup y = some .cell ∨ scope.names.lookup y = some .free := hy
    rcases hy with hy | hy
    · exact cell_has hy
    · exact absurd rfl (S.nofree _ (PySem.mem_of_lookup hy))
  · exact Nat.le_of_lt (x.above y c (PySem.mem_of_lookup h))
  · have hi : i < vs.length := by
      unfold start at h2
      by_cases hi : i < vs.length
      · exact hi
      · rw [List.getElem?_append_right (by simpa using hi)] at h2
        rw [List.getElem?_replicate] at h2
        split at h2 <;> cases h2
    have ha : vs[i]? = some v := by
      unfold start at h2
      rw [List.getElem?_append_left (by simpa using hi), List.getElem?_map] at h2
      cases e : vs[i]? with
      | none => rw [e] at h2; cases h2
      | some a => rw [e] at h2; cases h2; rfl
    obtain ⟨u, hu, rv⟩ := r.get ha
    have hp : ps[i]? = some y := by
      rw [← S.pre, List.getElem?_take_of_lt (by omega)]; exact h1
    have ndP : ps.Nodup := by rw [← S.pre]; exact S.nd.sublist (List.take_sublist _ _)
    refine ⟨u, rv, ?_⟩
    rcases S.par y (List.mem_of_getElem? hp) with k | k
    · exact .inl ⟨k, bindL_get ndP hp hu k⟩
    · obtain ⟨c, e⟩ := cell_has (n := s.heap.objs.size + 1) k
      refine .inr ⟨.inl k, c, e, ?_⟩
      have q := x.cell y c e
      rw [bindC_get ndP hp hu (by show scope.names.lookup y ≠ _; rw [k]; decide)] at q
      exact q
  · exact e0.hok.fresh (Nat.le_of_lt (x.above y c (PySem.mem_of_lookup h)))
  · unfold start
    show _ = N.length
    rw [List.length_append, List.length_map, List.length_replicate]
    omega
theorem fn_of {CX : CXT} {P : Program} {w : World} {K : PySem.W.Frag} {mg : Str → Option Value} {base : Heap} {k : Nat} {f : Addr} {name qual : Str} {params : Arguments} {body : List Stmt} {scope : Scope} {dV kV doc pm cdv ct oc : Value} {an od : Option Addr}
    {osl : Array (Option Value)} {N ps : List Str} {sp : Sp} (lk : K.lookup f = some ⟨oc, od, .func (PySem.W.fnOf name qual params body scope dV kV doc pm an cdv ct), osl⟩) (hcd : PySem.W.codeIn K cdv qual = true) (S : FnScope N ps scope)
    (len : ∀ vs H Q E, sp vs H Q E → vs.length = ps.length)
    (hbody : ∀ (A : Around) (outer : List Env) (s : Shared) (H : Hp) (vs : List V) (Q : VK) (E : XK), Room k (A.deeper (envOfC qual scope s.heap.objs.size f cdv)) → sp vs H Q E →
      ∃ t, PSs (cxOf CX P w K mg base N qual scope f cdv A outer s H E) body t ∧ t { nx := fun _ H' => Q .non H', rt := Q } (start N vs) H) :
    FnOk P w K mg base CX (k + 1) f (PySem.W.fnOf name qual params body scope dV kV doc pm an cdv ct) ps sp := by
  refine ⟨len, fun A outer s H args us vs Q E hr e0 hb r hsp => ?_⟩
  have hl := len _ _ _ _ hsp
  have KX : K.In s.heap := e0.mod.kin.keeps fun b o e => (e0.bs b o e).1
  have lim : s.heap.NoLimit := e0.mod.nolimit.keeps fun b o e => (e0.bs b o e).1
  have hkind : ∀ y ∈ ps.zip us, scope.names.lookup y.1 = some .local ∨ (scope.names.lookup y.1 = some .cell ∧ ((cellsFrom (s.heap.objs.size + 1) scope.names []).lookup y.1).isSome = true) := fun ⟨n, v⟩ hy => by
    rcases S.par n (List.of_mem_zip hy).1 with q | q
    · exact .inl q
    · exact .inr ⟨q, PySem.W.cellsFrom_some _ _ _ (.inl q)⟩
  refine codeAny_call_function hr.depth (KX _ _ lk) rfl S.co S.gen rfl (PySem.W.codeRec_of KX hcd) (hb _ _ _ _ ?_)
  refine wpAny_newFunctionEnv_cells S.kind hkind fun env he s1 x => ?_
  subst he
  refine ⟨lim.keeps x.toInCall.keep, codeAny_func ?_⟩
  obtain ⟨t, ht, hq⟩ := hbody A outer s H vs Q E (hr.deeper _) hsp
  have I : Inv (cxOf CX P w K mg base N qual scope f cdv A outer s H E) [] (start N vs) H s1 := inv_start S hr.hd e0 hl r x
  refine wpAny_mono (ht [] s1 (start N vs) H _ I hq) (fun fl s' hs => ?_) fun e s' hs => hs
  have fin : ∀ {σ' : St} {H' : Hp} {v : V} {u : Value}, Inv (cxOf CX P w K mg base N qual scope f cdv A outer s H E) [] σ' H' s' → RelV v u → Q v H' → CE outer P w H s Q u s' :=
    fun {σ' H' v u} J rv q => ⟨v, H', J.os, J.bare, J.base, J.hok, rv, q⟩
  cases fl with
  | ret u =>
    obtain ⟨v, σ', H', J, rv, q⟩ := hs
    exact fin J rv q
  | next =>
    obtain ⟨σ', H', J, q⟩ := hs
    exact fin (v := V.non) (u := Value.none) J rfl q
  | brk =>
    obtain ⟨_, _, _, q⟩ := hs
    exact False.elim q
  | cont =>
    obtain ⟨_, _, _, q⟩ := hs
    exact False.elim q
end L2
namespace L2
open PySem PySem.Spec PyProof.Rows
section
variable {X : Cx} {x : Str} {p pos : Pos} {e : Expr} {es : List Expr} {t : TA} {id T : String} {r : List V → Hp → VK → Prop}
def tCB (r : List V → Hp → VK → Prop) (t : TA) : TE := fun σ H Q => t σ H fun vs H1 => r vs H1 Q
theorem pe_callB (hc : CallR X (.builtin id) r) (hg : Gl X x) (hm : X.mg x = none) (hv : bootBuiltins x = some (.builtin id)) (ha : PA X (e :: es) t) (hn : x ≠ "__name__" := by decide) (hdb : (x == ("__debug__" : Str)) = false := by decide)
    (he : starEach (e :: es) X.env = (false, eval e X.env) :: starEach es X.env := by rfl) (hpl : (backTo pos (starEach es X.env)).any (·.1) = false := by rfl) : PE X (.Call (.Name x p) (e :: es) [] pos) (tCB r t) := by
  intro pins s σ H Q I h
  refine wpAny_Call_Name_kw (ld_blt I hg hm hv ?_ hn hdb)
  exact PyProof.Rows.callWith_builtin1 (thn (ha pos pins s σ H _ I h) fun us s1 ⟨vs, H1, I1, r1, q1⟩ => hc pins s1 σ H1 vs us Q I1 r1 q1) he hpl
theorem pe_callTy (hc : CallR X (.type T) r) (hg : Gl X x) (hm : X.mg x = none) (hv : bootBuiltins x = some (.type T)) (ha : PA X (e :: es) t) (hn : x ≠ "__name__" := by decide) (hdb : (x == ("__debug__" : Str)) = false := by decide)
    (he : starEach (e :: es) X.env = (false, eval e X.env) :: starEach es X.env := by rfl) (hpl : (backTo pos (starEach es X.env)).any (·.1) = false := by rfl) : PE X (.Call (.Name x p) (e :: es) [] pos) (tCB r t) := by
  intro pins s σ H Q I h
  refine wpAny_Call_Name_kw (ld_blt I hg hm hv ?_ hn hdb)
  exact PyProof.Rows.callWith_type1 (thn (ha pos pins s σ H _ I h) fun us s1 ⟨vs, H1, I1, r1, q1⟩ => hc pins s1 σ H1 vs us Q I1 r1 q1) he hpl
end
end L2
namespace HT
open PySem PyProof.Rows
section
open PySem.SeqAt
open PySem.AutoSeq1 (wpAny_loadPart')
open PySem.MeetsSeq PySem.MeetsSeq2 PySem.MeetsSeq3
end
section
variable {prog : Program} {w : World} {A : Around} {E : Value → Shared → Prop} {s : Shared}
end
end HT
namespace L2
open PySem PySem.Spec PyProof.Rows
abbrev TO := St → Hp → (Option Int → Hp → Prop) → Prop
section
variable {X : Cx} {e : Expr} {te : TE} {lo hi : Option Expr} {tl th : TO} {pos p2 : Pos}
end
end L2
namespace L2
open PySem PySem.Spec PyProof.Rows
def ixN (n : Nat) (i : Int) : Option Nat := if 0 ≤ i then (if i < n then some i.toNat else none) else if -(n : Int) ≤ i then some (i + n).toNat else none
def atI {α : Type} (xs : List α) (i : Int) : Option α := (ixN xs.length i).bind fun j => xs[j]?
theorem ixN_seq {n : Nat} {i : Int} {j : Nat} (h : ixN n i = some j) : seqIndex? i n = some j ∧ j < n ∧ -(n : Int) ≤ i ∧ i < n := by
  unfold ixN at h
  by_cases h0 : 0 ≤ i
  · rw [if_pos h0] at h
    by_cases h1 : i < n
    · rw [if_pos h1] at h
      have e : i.toNat = j := Option.some.inj h
      exact ⟨by rw [seqIndex_of h0 h1, e], by omega, by omega, h1⟩
    · rw [if_neg h1] at h; cases h
  · rw [if_neg h0] at h
    by_cases h1 : -(n : Int) ≤ i
    · rw [if_pos h1] at h
      have e : (i + n).toNat = j := Option.some.inj h
      exact ⟨by rw [seqIndex_neg (by omega) h1, e], by omega, h1, by omega⟩
    · rw [if_neg h1] at h; cases h
theorem atI_get {α : Type} {xs : List α} {i : Int} {v : α} (h : atI xs i = some v) : ∃ j, seqIndex? i xs.length = some j ∧ xs[j]? = some v ∧ j < xs.length ∧ -(xs.length : Int) ≤ i ∧ i < xs.length := by
  unfold atI at h
  cases e : ixN xs.length i with
  | none => rw [e] at h; cases h
  | some j =>
    rw [e] at h
    obtain ⟨h1, h2, h3, h4⟩ := ixN_seq e
    exact ⟨j, h1, h, h2, h3, h4⟩
theorem atI_nat {α : Type} {xs : List α} {j : Nat} {v : α} (h : xs[j]? = some v) : atI xs (j : Int) = some v := by
  have hj : j < xs.length := (List.getElem?_eq_some_iff.mp h).1
  have e : ixN xs.length (j : Int) = some j := by
    unfold ixN
    rw [if_pos (by omega), if_pos (by omega)]; simp
  unfold atI; rw [e]; exact h
def PlainIx (b : Expr) : Prop := ∀ o i, subscripted b false o i = operate [o, i] (getItem o i)
def IxR (X : Cx) (r : R2) : Prop :=
  ∀ (value slice : Expr) (pins : List (Addr × Obj)) (s : Shared) (σ : St) (H : Hp) (x y : V) (v u : Value) (Q : VK), Inv X pins σ H s → RelV x v → RelV y u → r x y H Q →
    subscripted slice false v u = operate [v, u] (getItem v u) → wpAny (model X.prog X.w) X.A (subscriptTail value slice v u) (EP X pins σ Q) X.xe s
def MtR (X : Cx) (id : String) (r : V → List V → Hp → VK → Prop) : Prop :=
  ∀ (pins : List (Addr × Obj)) (s : Shared) (σ : St) (H : Hp) (x : V) (xs : List V) (v : Value) (us : List Value) (Q : VK), Inv X pins σ H s → RelV x v → Vals xs us → r x xs H Q →
    wpAny (model X.prog X.w) X.A (call (.builtin id) (v :: us)) (EP X pins σ Q) X.xe s
section
variable {X : Cx} {a b : Expr} {ta tb : TE} {pos : Pos}
theorem pe_ix {r : R2} (hr : IxR X r) (ha : PE X a ta) (hb : PE X b tb) (hs : PlainIx b) : PE X (.Subscript a b pos) (tOp r ta tb) := by
  intro pins s σ H Q I h
  exact Subscript_ (binT ha hb I h fun v u s2 x y H2 I2 rx ry q => hr a b pins s2 σ H2 x y v u Q I2 rx ry q (hs _ _))
def rIxL (K : PySem.W.Frag) : R2 := fun x y H Q => ∃ p xs i v, x = .ref p ∧ y = .int i ∧ SqL K H p xs ∧ atI xs i = some v ∧ Q v H
def rIxT (K : PySem.W.Frag) : R2 := fun x y H Q => ∃ p xs i v, x = .ref p ∧ y = .int i ∧ SqT K H p xs ∧ atI xs i = some v ∧ Q v H
theorem ix_list : IxR X (rIxL X.K) := by
  intro value slice pins s σ H x y v u Q I rx ry h hs
  obtain ⟨p, xs, i, z, rfl, rfl, hq, he, q⟩ := h
  cases rx
  obtain ⟨t, rfl⟩ := ry
  obtain ⟨its, r, pl, hz⟩ := I.list hq
  obtain ⟨j, h1, h2, h3, h4, h5⟩ := atI_get he
  obtain ⟨w, ew, rw'⟩ := r.get h2
  have hl := r.length
  have hn := line63
  have fin : EP X pins σ Q w s := ⟨z, H, I, rw', q⟩
  by_cases h0 : 0 ≤ i
  · have hj : i.toNat = j := by
      rw [seqIndex_of h0 h5] at h1
      exact Option.some.inj h1
    exact item_listR pl.isList h0 (by omega) (by rw [hj]; simpa using ew) fin hs
  · have hj : (i + (its.toArray.size : Int)).toNat = j := by
      rw [seqIndex_neg (by omega) h4] at h1
      rw [List.size_toArray, ← hl]
      exact Option.some.inj h1
    exact subscriptTail_builtinR (x := w) pl.isList.typeIs slot_list_getitem.lookup
      (wpAny_getItem_list_neg (Q := fun r s' => r = w ∧ EP X pins σ Q r s') pl.isList (by omega) (by rw [List.size_toArray] <;> omega) (by omega) (by rw [hj]; simpa using ew) ⟨rfl, fin⟩) hs
theorem ix_tup : IxR X (rIxT X.K) := by
  intro value slice pins s σ H x y v u Q I rx ry h hs
  obtain ⟨p, xs, i, z, rfl, rfl, hq, he, q⟩ := h
  cases rx
  obtain ⟨t, rfl⟩ := ry
  obtain ⟨its, r, pl, hz⟩ := I.tuple hq
  obtain ⟨j, h1, h2, h3, h4, h5⟩ := atI_get he
  obtain ⟨w, ew, rw'⟩ := r.get h2
  have hl := r.length
  have hn := line63
  have fin : EP X pins σ Q w s := ⟨z, H, I, rw', q⟩
  exact subscriptTail_builtinR (x := w) pl.typeIs slot_tuple_getitem.lookup
    (getItem_tuple (j := j) (Q := fun r s' => r = w ∧ EP X pins σ Q r s') pl (by omega) (by omega) (by rw [List.size_toArray, ← hl]; exact h1) (by simpa using ew) ⟨rfl, fin⟩) hs
theorem mapSeq_set (its : List Value) (n j : Nat) (u : Value) : Obj.mapSeq (·.setIfInBounds j u) { cls := .type "list", data := .seq its.toArray n } = { cls := .type "list", data := .seq (its.set j u).toArray n } := by
  simp [Obj.mapSeq]
theorem Inv.lst {pins : List (Addr × Obj)} {σ : St} {H : Hp} {s : Shared} {p : Addr} {xs : List V} (I : Inv X pins σ H s) (h : H p = some (.lst xs)) :
    ∃ (its : List Value) (n : Nat), Vals xs its ∧ s.heap.get? p = some { cls := .type "list", data := .seq its.toArray n } ∧ xs.length ≤ sizeLine := by
  obtain ⟨z, its, n, r, e⟩ := I.hok p _ h
  exact ⟨its, n, r, e, z⟩
theorem Inv.lstUpd {pins : List (Addr × Obj)} {σ : St} {H : Hp} {s : Shared} {p : Addr} {xs ys : List V} {its its' : List Value} {n n' : Nat} {f : Obj → Obj} (I : Inv X pins σ H s) (h : H p = some (.lst xs))
    (ho : s.heap.get? p = some { cls := .type "list", data := .seq its.toArray n }) (hf : f { cls := .type "list", data := .seq its.toArray n } = { cls := .type "list", data := .seq its'.toArray n' }) (r : Vals ys its') (hz : ys.length ≤ sizeLine) (t : Nat) :
    Inv X pins σ (upd H p (.lst ys)) { s with heap := s.heap.update p f, toks := t } := by
  have e : (s.heap.update p f).get? p = some { cls := .type "list", data := .seq its'.toArray n' } := by
    rw [Heap.get?_update_self f ho (by rw [hf] <;> rfl), hf]
  refine I.write (x := p) (e := p) (by rw [h]; trivial) (.inl rfl) (fun b u hb q => (Heap.get?_update_other _ _ (Ne.symm hb)).trans q) ⟨_, e⟩ ?_
  exact ⟨hz, its', n', r, e⟩
def rSetL : V → V → V → Hp → (Hp → Prop) → Prop := fun o i v H Q => ∃ p xs k j, o = .ref p ∧ i = .int k ∧ H p = some (.lst xs) ∧ ixN xs.length k = some j ∧ Q (upd H p (.lst (xs.set j v)))
theorem set_list : PSet X rSetL := by
  intro pins s σ H o i v ov iv u Q I ro ri rv h
  obtain ⟨p, xs, k, j, rfl, rfl, hp, hj, q⟩ := h
  cases ro
  obtain ⟨t, rfl⟩ := ri
  obtain ⟨its, n, r, ho, hz⟩ := I.lst hp
  obtain ⟨h1, h2, h3, h4⟩ := ixN_seq hj
  have hl := r.length
  have hn := line63
  have I' : Inv X pins σ (upd H p (.lst (xs.set j v))) { s with heap := s.heap.update p (Obj.mapSeq (·.setIfInBounds j u)) } :=
    I.lstUpd hp ho (mapSeq_set its n j u) (r.set rv j) (by rw [List.length_set]; exact hz) s.toks
  by_cases h0 : 0 ≤ k
  · have hk : k.toNat = j := by
      rw [seqIndex_of h0 h4] at h1
      exact Option.some.inj h1
    exact PySem.W.ki_setAt ho h0 (by omega) (by rw [List.size_toArray, ← hl]; exact h4) (by rw [hk]; exact ⟨_, I', q⟩)
  · have hk : (k + (its.toArray.size : Int)).toNat = j := by
      rw [seqIndex_neg (by omega) h3] at h1
      rw [List.size_toArray, ← hl]
      exact Option.some.inj h1
    exact PySem.W.ki_setBack ho (by omega) (by rw [List.size_toArray, ← hl]; exact h3) (by omega) (by rw [hk]; exact ⟨_, I', q⟩)
def flatV : V → Bool
  | .non => true
  | .bl _ => true
  | .int _ => true
  | .str _ => true
  | _ => false
def eqV : V → V → Bool
  | .non, .non => true
  | .bl a, .bl b => a == b
  | .bl a, .int b => (if a then 1 else 0) == b
  | .int a, .bl b => a == (if b then 1 else 0)
  | .int a, .int b => a == b
  | .str a, .str b => a == b
  | _, _ => false
theorem eqAt_V {A : Around} {s : Shared} {y x : V} {u v : Value} (ry : RelV y u) (rx : RelV x v) (fy : flatV y = true) (fx : flatV x = true) : SeqAt.EqAt A s u v (eqV y x) := by
  cases y with
  | non =>
    cases ry
    cases x with
    | non => cases rx; exact SeqAt.EqAt.same _
    | bl b => cases rx; exact SeqAt.EqAt.none_bool b
    | int b => obtain ⟨t, rfl⟩ := rx; exact SeqAt.EqAt.none_int b t
    | str b => obtain ⟨t, rfl⟩ := rx; exact SeqAt.EqAt.none_str b t
    | _ => exact absurd (show false = true from fx) Bool.false_ne_true
  | bl a =>
    cases ry
    cases x with
    | non => cases rx; exact SeqAt.EqAt.bool_none a
    | bl b => cases rx; exact SeqAt.EqAt.bool_bool a b
    | int b => obtain ⟨t, rfl⟩ := rx; exact SeqAt.EqAt.bool_int a b t
    | str b => obtain ⟨t, rfl⟩ := rx; exact SeqAt.EqAt.bool_str a b t
    | _ => exact absurd (show false = true from fx) Bool.false_ne_true
  | int a =>
    obtain ⟨t', rfl⟩ := ry
    cases x with
    | non => cases rx; exact SeqAt.EqAt.int_none a t'
    | bl b => cases rx; exact SeqAt.EqAt.int_bool a t' b
    | int b => obtain ⟨t, rfl⟩ := rx; exact SeqAt.EqAt.int_int a t' b t
    | str b => obtain ⟨t, rfl⟩ := rx; exact SeqAt.EqAt.int_str a t' b t
    | _ => exact absurd (show false = true from fx) Bool.false_ne_true
  | str a =>
    obtain ⟨t', rfl⟩ := ry
    cases x with
    | non => cases rx; exact SeqAt.EqAt.str_none a t'
    | bl b => cases rx; exact SeqAt.EqAt.str_bool a t' b
    | int b => obtain ⟨t, rfl⟩ := rx; exact SeqAt.EqAt.str_int a t' b t
    | str b => obtain ⟨t, rfl⟩ := rx; exact SeqAt.EqAt.str_str a t' b t
    | _ => exact absurd (show false = true from fx) Bool.false_ne_true
  | _ => exact absurd (show false = true from fy) Bool.false_ne_true
def eqU (x : V) (u : Value) : Bool := match u with
  | .none => eqV .non x
  | .bool b => eqV (.bl b) x
  | .int i _ => eqV (.int i) x
  | .str z _ => eqV (.str z) x
  | _ => false
theorem eqU_of {x y : V} {u : Value} (r : RelV y u) (f : flatV y = true) : eqU x u = eqV y x := by
  cases y with
  | non => cases r; rfl
  | bl b => cases r; rfl
  | int i => obtain ⟨t, rfl⟩ := r; rfl
  | str z => obtain ⟨t, rfl⟩ := r; rfl
  | _ => exact absurd (show false = true from f) Bool.false_ne_true
theorem any_eqU {x : V} : ∀ {xs : List V} {us : List Value}, Vals xs us → xs.all flatV = true → us.any (eqU x) = xs.any fun y => eqV y x
  | _, _, .nil, _ => rfl
  | y :: xs, u :: us, .cons r t, f => by
    rw [List.all_cons, Bool.and_eq_true] at f
    rw [List.any_cons, List.any_cons, eqU_of r f.1, any_eqU t f.2]
theorem mem_eqAt {A : Around} {s : Shared} {x : V} {v : Value} (rx : RelV x v) (fx : flatV x = true) : ∀ {xs : List V} {us : List Value}, Vals xs us → xs.all flatV = true → ∀ u ∈ us, SeqAt.EqAt A s u v (eqU x u)
  | _, _, .nil, _ => fun u hu => by cases hu
  | y :: xs, u :: us, .cons r t, f => fun u' hu => by
    rw [List.all_cons, Bool.and_eq_true] at f
    rcases List.mem_cons.mp hu with rfl | hu
    · rw [eqU_of r f.1]; exact eqAt_V r rx f.1 fx
    · exact mem_eqAt rx fx t f.2 u' hu
def inV (x : V) (xs : List V) : Bool := xs.any fun y => eqV y x
def rIn (K : PySem.W.Frag) (neg : Bool) : R2 := fun x y H Q => ∃ p xs, y = .ref p ∧ (SqL K H p xs ∨ SqT K H p xs) ∧ flatV x = true ∧ xs.all flatV = true ∧ Q (.bl (if neg then !inV x xs else inV x xs)) H
theorem op_in_seq : OpR X (compareOp .In) (rIn X.K false) := by
  intro pins s σ H x y v u Q I rx ry h
  obtain ⟨p, xs, rfl, hq, fx, fs, q⟩ := h
  cases ry
  rcases hq with hq | hq
  · obtain ⟨its, r, pl, hz⟩ := I.list hq
    refine SeqAt.in_listAt (eqU x) pl.isList (fun w hw => mem_eqAt rx fx r fs w (by simpa using hw)) ⟨.bl _, H, I, rfl, ?_⟩
    rw [show its.toArray.any (eqU x) = its.any (eqU x) by simp, any_eqU r fs]
    exact q
  · obtain ⟨its, r, pl, hz⟩ := I.tuple hq
    refine SeqAt.in_tupleAt (eqU x) pl (fun w hw => mem_eqAt rx fx r fs w (by simpa using hw)) ⟨.bl _, H, I, rfl, ?_⟩
    rw [show its.toArray.any (eqU x) = its.any (eqU x) by simp, any_eqU r fs]
    exact q
theorem op_notIn_seq : OpR X (compareOp .NotIn) (rIn X.K true) := by
  intro pins s σ H x y v u Q I rx ry h
  obtain ⟨p, xs, rfl, hq, fx, fs, q⟩ := h
  cases ry
  rcases hq with hq | hq
  · obtain ⟨its, r, pl, hz⟩ := I.list hq
    refine SeqAt.notIn_listAt (eqU x) pl.isList (fun w hw => mem_eqAt rx fx r fs w (by simpa using hw)) ⟨.bl _, H, I, rfl, ?_⟩
    rw [show its.toArray.any (eqU x) = its.any (eqU x) by simp, any_eqU r fs]
    exact q
  · obtain ⟨its, r, pl, hz⟩ := I.tuple hq
    refine SeqAt.notIn_tupleAt (eqU x) pl (fun w hw => mem_eqAt rx fx r fs w (by simpa using hw)) ⟨.bl _, H, I, rfl, ?_⟩
    rw [show its.toArray.any (eqU x) = its.any (eqU x) by simp, any_eqU r fs]
    exact q
theorem call_len_seq : CallR X (.builtin "len") (fun xs H Q => ∃ p ys, xs = [.ref p] ∧ (SqL X.K H p ys ∨ SqT X.K H p ys) ∧ Q (.int ys.length) H) := by
  intro pins s σ H xs us Q I r h
  obtain ⟨p, ys, rfl, hq, q⟩ := h
  obtain ⟨u, rfl, rx⟩ := vals1 r
  cases rx
  have hn := line63
  rcases hq with hq | hq
  · obtain ⟨its, r', pl, hz⟩ := I.list hq
    have hlen := r'.length
    exact Calls.call_len_list pl.isList (by simp only [List.size_toArray] <;> omega) ⟨.int ys.length, H, I.tok _, ⟨s.toks + 1, by rw [List.size_toArray, hlen]⟩, q⟩
  · obtain ⟨its, r', pl, hz⟩ := I.tuple hq
    have hlen := r'.length
    exact len_tuple pl (by simp only [List.size_toArray] <;> omega) ⟨.int ys.length, H, I.tok _, ⟨s.toks + 1, by rw [List.size_toArray, hlen]⟩, q⟩
theorem call_list_of : CallR X (.type "list") (fun xs H Q => ∃ p ys, xs = [.ref p] ∧ (SqL X.K H p ys ∨ SqT X.K H p ys) ∧ ∀ l, H l = none → Q (.ref l) (upd H l (.lst ys))) := by
  intro pins s σ H xs us Q I r h
  obtain ⟨p, ys, rfl, hq, q⟩ := h
  obtain ⟨u, rfl, rx⟩ := vals1 r
  cases rx
  have fin : ∀ (its : List Value), Vals ys its → ys.length ≤ sizeLine → ∀ (h' : Heap) (c' : Nat), (∀ b o', s.heap.get? b = some o' → h'.get? b = some o') →
      h'.get? s.heap.objs.size = some { cls := .type "list", dict := none, data := .seq its.toArray c', slots := #[] } → EP X pins σ Q (.ref s.heap.objs.size) { s with heap := h' } := fun its r' hz h' c' kp e =>
    ⟨.ref s.heap.objs.size, _, I.laid (t' := s.toks) kp (Nat.le_refl _) (show ObjOk X.prog X.w _ h' _ (.lst ys) from ⟨hz, its, c', r', e⟩), rfl, q _ (I.hok.fresh (Nat.le_refl _))⟩
  rcases hq with hq | hq
  · obtain ⟨its, r', pl, hz⟩ := I.list hq
    have hlen := r'.length
    obtain ⟨o, ho, hc, n, hd⟩ := pl.isList
    exact call_list_seq p (.inl rfl) ho hc hd (fun h' c' kp e => fin its r' hz h' c' kp e) (by simp only [List.size_toArray] <;> omega)
  · obtain ⟨its, r', pl, hz⟩ := I.tuple hq
    have hlen := r'.length
    obtain ⟨o, ho, hc, n, hd⟩ := pl
    exact call_list_seq p (.inr rfl) ho hc hd (fun h' c' kp e => fin its r' hz h' c' kp e) (by simp only [List.size_toArray] <;> omega)
theorem call_tuple_of : CallR X (.type "tuple") (fun xs H Q => ∃ p ys, xs = [.ref p] ∧ ((SqL X.K H p ys ∧ ∀ l, H l = none → Q (.ref l) (upd H l (.tup ys))) ∨ (SqT X.K H p ys ∧ Q (.ref p) H))) := by
  intro pins s σ H xs us Q I r h
  obtain ⟨p, ys, rfl, h⟩ := h
  obtain ⟨u, rfl, rx⟩ := vals1 r
  cases rx
  rcases h with ⟨hq, q⟩ | ⟨hq, q⟩
  · obtain ⟨its, r', pl, hz⟩ := I.list hq
    have hlen := r'.length
    refine call_tuple_list pl.isList (fun h' kp => ?_) (by simp only [List.size_toArray] <;> omega)
    have I1 : Inv X pins σ H { s with heap := h' } := I.kept (t' := s.toks) kp
    have I2 : Inv X pins σ (upd H h'.objs.size (.tup ys)) { s with heap := h'.push { cls := .type "tuple", data := .seq its.toArray } } :=
      I1.laid (t' := s.toks) (fun b o e => Heap.get?_push_of_some _ e) (Nat.le_refl _) (show ObjOk X.prog X.w _ _ _ (.tup ys) from ⟨hz, its, r', IsTup.new _ _⟩)
    exact ⟨.ref h'.objs.size, _, I2, rfl, q _ (I1.hok.fresh (Nat.le_refl _))⟩
  · obtain ⟨its, r', pl, hz⟩ := I.tuple hq
    exact call_tuple_same pl ⟨.ref p, H, I, rfl, q⟩
def tyV (K : PySem.W.Frag) (T : String) (x : V) (H : Hp) : Prop := match x with
  | .str _ => T = "str"
  | .int _ => T = "int"
  | .ref p => (T = "list" ∧ ∃ xs, SqL K H p xs) ∨ (T = "tuple" ∧ ∃ o, K.lookup p = some o ∧ o.cls = .type "tuple" ∧ o.dict = none) ∨
      (T = "dict" ∧ ((∃ kvs, H p = some (.dK kvs)) ∨ ∃ kvs, H p = some (.dT kvs))) ∨ (T = "set" ∧ ∃ S n, H p = some (.set S n))
  | _ => False
theorem tyV_is {pins : List (Addr × Obj)} {σ : St} {H : Hp} {s : Shared} {T : String} {x : V} {v : Value} (I : Inv X pins σ H s) (r : RelV x v) (ty : tyV X.K T x H) :
    s.TypeIs v T ∧ ∀ a, v = .ref a → ∃ ob, s.heap.get? a = some ob ∧ ob.dict = none := by
  cases x with
  | str z =>
    obtain ⟨t, rfl⟩ := r
    cases (show T = "str" from ty)
    exact ⟨typeIs_str s z t, fun _ e => nomatch e⟩
  | int i =>
    obtain ⟨t, rfl⟩ := r
    cases (show T = "int" from ty)
    exact ⟨typeIs_int s i t, fun _ e => nomatch e⟩
  | ref p =>
    cases r
    rcases ty with ⟨rfl, xs, hq⟩ | ⟨rfl, o, hk, hc, hd⟩ | ⟨rfl, hk⟩ | ⟨rfl, S, n, hk⟩
    · obtain ⟨its, _, pl, _⟩ := I.list hq
      refine ⟨pl.isList.typeIs, fun a e => ?_⟩
      cases e
      obtain ⟨o, n, e, c, hd, _⟩ := pl
      exact ⟨o, e, hd⟩
    · refine ⟨⟨o, I.kIn p o hk, hc⟩, fun a e => ?_⟩
      cases e
      exact ⟨o, I.kIn _ o hk, hd⟩
    · have z : ∃ o, s.heap.get? p = some o ∧ o.ExactDict := by
        rcases hk with ⟨kvs, hk⟩ | ⟨kvs, hk⟩
        · obtain ⟨_, _, _, _, o, _, _, e, ex, _⟩ := I.hok p _ hk
          exact ⟨o, e, ex⟩
        · obtain ⟨_, _, _, _, o, _, _, e, ex, _⟩ := I.hok p _ hk
          exact ⟨o, e, ex⟩
      obtain ⟨o, e, ex⟩ := z
      refine ⟨⟨o, e, ex.1⟩, fun a e2 => ?_⟩
      cases e2
      exact ⟨o, e, ex.2.1⟩
    · obtain ⟨o, _, _, _, e, ex, _⟩ := I.hok p _ hk
      refine ⟨⟨o, e, ex.1⟩, fun a e2 => ?_⟩
      cases e2
      exact ⟨o, e, ex.2.1⟩
  | _ => exact False.elim ty
def tBM0 (K : PySem.W.Frag) (T : String) (r : V → List V → Hp → VK → Prop) (to : TE) : TE := fun σ H Q => to σ H fun x H1 => tyV K T x H1 ∧ r x [] H1 Q
def tBM (K : PySem.W.Frag) (T : String) (r : V → List V → Hp → VK → Prop) (to : TE) (t : TA) : TE := fun σ H Q => to σ H fun x H1 => tyV K T x H1 ∧ t σ H1 fun xs H2 => r x xs H2 Q
variable {o e : Expr} {es : List Expr} {to : TE} {t : TA} {name : Str} {apos cpos : Pos} {T id : String} {r : V → List V → Hp → VK → Prop}
theorem pe_bm0 (pa : PlainAttrs T) (slot : Slot T name id) (hty : typeOf (.builtin id) = pure (.type "method_descriptor")) (hm : MtR X id r) (ho : PE X o to)
    (hbase : attributeBase o name X.env (eval o X.env) = eval o X.env := by rfl) (hline : (apos.endLine == cpos.line) = true := by rfl) : PE X (.Call (.Attribute o name apos) [] [] cpos) (tBM0 X.K T r to) := by
  intro pins s σ H Q I h
  refine wpAny_Call_method0_late hbase hline (thn (ho pins s σ H _ I h) fun v s1 ⟨x, H1, I1, r1, ty, q1⟩ => ?_)
  obtain ⟨h1, h2⟩ := tyV_is I1 r1 ty
  exact ⟨T, id, pa, slot, hty, h1, h2, Calls.callWith_builtin rfl (PySem.evalArgs_none (hm pins s1 σ H1 x [] v [] Q I1 r1 .nil q1))⟩
theorem pe_bm (pa : PlainAttrs T) (slot : Slot T name id) (hty : typeOf (.builtin id) = pure (.type "method_descriptor")) (hm : MtR X id r) (ho : PE X o to) (ha : PA X (e :: es) t)
    (hbase : attributeBase o name X.env (eval o X.env) = eval o X.env := by rfl)
    (hfew : ((backTo cpos (starEach (e :: es) X.env)).all (fun x => !x.1) && (backToKw cpos (keywordEach [] X.env)).all (fun x => x.1.isSome)
      && decide ((e :: es).length + ([] : List Keyword).length + (if ([] : List Keyword).isEmpty then 0 else 1) < 30)) = true := by rfl)
    (hline : (apos.endLine == cpos.line) = true := by rfl) (hs : starEach (e :: es) X.env = (false, eval e X.env) :: starEach es X.env := by rfl) (hplain : (backTo cpos (starEach es X.env)).any (·.1) = false := by rfl) :
    PE X (.Call (.Attribute o name apos) (e :: es) [] cpos) (tBM X.K T r to t) := by
  intro pins s σ H Q I h
  refine wpAny_Call_method_late hbase hfew hline rfl (thn (ho pins s σ H _ I h) fun v s1 ⟨x, H1, I1, r1, ty, q1⟩ => ?_)
  obtain ⟨h1, h2⟩ := tyV_is I1 r1 ty
  refine ⟨T, id, pa, slot, hty, h1, h2, ?_⟩
  have hA := ha cpos pins s1 σ H1 _ I1 q1
  rw [hs] at hA ⊢
  refine Calls.callWith_builtin (by show (false || (backTo cpos (starEach es X.env)).any (·.1)) = false; rw [hplain] <;> rfl) (Calls.evalArgs_plain ?_)
  exact thn hA fun us s2 ⟨vs, H2, I2, r2, q2⟩ => hm pins s2 σ H2 x vs v us Q I2 r1 r2 q2
end
end L2
namespace L2
open PySem PySem.Spec PyProof.Rows
def MtM (X : Cx) (id : String) (r : V → List V → Hp → VK → Prop) : Prop :=
  ∀ (pins : List (Addr × Obj)) (s : Shared) (σ : St) (H : Hp) (x : V) (xs : List V) (v : Value) (us : List Value) (Q : VK), Inv X pins σ H s → RelV x v → Vals xs us → r x xs H Q →
    wpAny (model X.prog X.w) X.A (call (.builtin id) (v :: us)) (EP X pins σ Q) X.xe s
theorem Vals.one : ∀ {x : V} {us : List Value}, Vals [x] us → ∃ u, us = [u] ∧ RelV x u
  | _, _, .cons r .nil => ⟨_, rfl, r⟩
theorem Vals.zero : ∀ {us : List Value}, Vals [] us → us = []
  | _, .nil => rfl
theorem Vals.dropLast {xs : List V} {us : List Value} (h : Vals xs us) : Vals xs.dropLast us.dropLast := by
  induction h with
  | nil => exact .nil
  | cons r t ih =>
    cases t with
    | nil => exact .nil
    | cons q t' => exact .cons r ih
theorem Vals.eraseIdx : ∀ {xs : List V} {us : List Value} (i : Nat), Vals xs us → Vals (xs.eraseIdx i) (us.eraseIdx i)
  | _, _, _, .nil => .nil
  | _, _, 0, .cons _ t => t
  | _, _, i + 1, .cons r t => .cons r (Vals.eraseIdx i t)
theorem Vals.reverse {xs : List V} {us : List Value} (h : Vals xs us) : Vals xs.reverse us.reverse := by
  induction h with
  | nil => exact .nil
  | cons r t ih => rw [List.reverse_cons, List.reverse_cons]; exact Vals.append ih (.cons r .nil)
theorem erase_last {α : Type} (l : List α) : l.eraseIdx (l.length - 1) = l.dropLast := by
  induction l with
  | nil => rfl
  | cons a r ih =>
    cases r with
    | nil => rfl
    | cons b r =>
      have e : (a :: b :: r).length - 1 = ((b :: r).length - 1) + 1 := by
        have h1 : (a :: b :: r).length = r.length + 2 := rfl
        have h2 : (b :: r).length = r.length + 1 := rfl
        omega
      rw [e, List.eraseIdx_cons_succ, ih]
      all_goals rfl
section
variable {X : Cx} {pins : List (Addr × Obj)} {σ : St} {H : Hp} {s : Shared} {l b : Addr} {xs ys zs : List V}
theorem Inv.lset {its its' : List Value} {n : Nat} {f : Array Value → Array Value} {t' : Nat} (I : Inv X pins σ H s) (hH : H l = some (.lst xs))
    (e : s.heap.get? l = some { cls := .type "list", data := .seq its.toArray n }) (hf : f its.toArray = its'.toArray) (hv : Vals ys its') (hz : ys.length ≤ sizeLine) :
    Inv X pins σ (upd H l (.lst ys)) { s with heap := s.heap.update l (Obj.mapSeq f), toks := t' } := by
  have q := PySem.IsL.update e f
  rw [hf] at q
  refine I.write (x := l) (e := l) (by rw [hH]; exact trivial) (.inl rfl) (fun b' u hb hu => (Heap.get?_update_other s.heap (Obj.mapSeq f) (Ne.symm hb)).trans hu) ⟨_, q⟩ ?_
  exact ⟨hz, its', _, hv, q⟩
theorem Inv.lnew {its : List Value} {t' : Nat} (I : Inv X pins σ H s) (hv : Vals ys its) (hz : ys.length ≤ sizeLine) :
    Inv X pins σ (upd H s.heap.objs.size (.lst ys)) { s with heap := s.heap.push { cls := .type "list", data := .seq its.toArray }, toks := t' } :=
  I.laid (fun _ _ q => Heap.get?_push_of_some _ q) (Nat.le_refl _) ⟨hz, its, 0, hv, Heap.get?_push_size _ rfl⟩
theorem Inv.fresh (I : Inv X pins σ H s) : H s.heap.objs.size = none := I.hok.fresh (Nat.le_refl _)
theorem Inv.lstM (I : Inv X pins σ H s) (hH : H l = some (.lst xs)) : xs.length ≤ sizeLine ∧ ∃ (its : List Value) (n : Nat), Vals xs its ∧ xs.length = its.length ∧ s.heap.get? l = some { cls := .type "list", data := .seq its.toArray n } := by
  obtain ⟨z, its, n, r, e⟩ := I.hok l _ hH
  exact ⟨z, its, n, r, r.length, e⟩
end
section
variable {X : Cx}
def rAppend : V → List V → Hp → VK → Prop := fun x vs H Q => ∃ l xs y, x = .ref l ∧ vs = [y] ∧ H l = some (.lst xs) ∧ xs.length < sizeLine ∧ Q .non (upd H l (.lst (xs ++ [y])))
theorem mt_append : MtM X "list.append" rAppend := by
  intro pins s σ H x vs v us Q I rx rv h
  obtain ⟨l, xs, y, rfl, rfl, hH, hz, q⟩ := h
  cases rx
  obtain ⟨u, rfl, ru⟩ := rv.one
  obtain ⟨z, its, n, r, hl, e⟩ := I.lstM hH
  refine call_meets F.slot_list_append ⟨_, e, rfl⟩ F.entry_list_append (F.args_list_append_2 _ _) (PySem.list_append l its.toArray n u (by rw [List.size_toArray]; omega)) ⟨e, ?_⟩
  refine ⟨.non, _, I.lset (its' := its ++ [u]) hH e (by simp) (r.append (.cons ru .nil)) ?_, rfl, q⟩
  rw [List.length_append, List.length_singleton]
  omega
def rPop : V → List V → Hp → VK → Prop := fun x vs H Q => ∃ l xs y, x = .ref l ∧ vs = [] ∧ H l = some (.lst xs) ∧ xs[xs.length - 1]? = some y ∧ Q y (upd H l (.lst xs.dropLast))
theorem mt_pop : MtM X "list.pop" rPop := by
  intro pins s σ H x vs v us Q I rx rv h
  obtain ⟨l, xs, y, rfl, rfl, hH, hy, q⟩ := h
  cases rx
  have hus := rv.zero
  subst hus
  obtain ⟨z, its, n, r, hl, e⟩ := I.lstM hH
  obtain ⟨u, hu, ru⟩ := r.get hy
  have hy' : its.toArray[its.toArray.size - 1]? = some u := by
    show its.toArray[its.length - 1]? = some u
    rw [← Array.getElem?_toList, ← hl]
    exact hu
  refine call_meets F.slot_list_pop ⟨_, e, rfl⟩ F.entry_list_pop (F.args_list_pop_1 _) (MeetsSeq.list_pop_last l its.toArray n u hy' (by rw [List.size_toArray]; omega)) ⟨e, ?_⟩
  refine ⟨y, _, I.lset (its' := its.dropLast) hH e ?_ r.dropLast ?_, ru, q⟩
  · show its.toArray.eraseIdxIfInBounds (its.toArray.size - 1) = its.dropLast.toArray
    rw [List.size_toArray, List.eraseIdxIfInBounds_toArray, erase_last]
  · rw [List.length_dropLast]
    omega
def rCat : R2 := fun x y H Q => ∃ l b xs zs, x = .ref l ∧ y = .ref b ∧ H l = some (.lst xs) ∧ H b = some (.lst zs) ∧ xs.length + zs.length ≤ sizeLine ∧ ∀ p, H p = none → Q (.ref p) (upd H p (.lst (xs ++ zs)))
theorem op_cat : OpR X (binaryOp .Add) rCat := by
  intro pins s σ H x y v u Q I rx ry h
  obtain ⟨l, b, xs, zs, rfl, rfl, hH, hB, hz, q⟩ := h
  cases rx
  cases ry
  obtain ⟨z, its, n, r, hl, e⟩ := I.lstM hH
  obtain ⟨z2, its2, n2, r2, hl2, e2⟩ := I.lstM hB
  refine PySem.P.add_list e e2 ?_ (by rw [List.size_toArray, List.size_toArray]; omega)
  have ea : its.toArray ++ its2.toArray = (its ++ its2).toArray := by simp
  rw [ea]
  exact ⟨.ref _, _, I.lnew (t' := s.toks) (r.append r2) (by rw [List.length_append]; omega), rfl, q _ I.fresh⟩
end
section
variable {prog : Program} {w : World} {A : Around} {E : Value → Shared → Prop} {s : Shared}
end
section
variable {X : Cx}
end
end L2
namespace Att
open PySem PySem.W PySem.Calls PyProof.Rows
theorem ints_of_wellAll {P : Params} {h : Heap} : ∀ (ns : List Int) (vs : List Value), WellAll P h vs (ns.map WData.int) → IntsAre vs ns := by
  intro ns
  induction ns with
  | nil =>
    intro vs w
    rw [List.map_nil] at w
    cases w
    exact .nil
  | cons n ns ih =>
    intro vs w
    rw [List.map_cons] at w
    cases w with
    | cons a b =>
      cases a
      exact .cons _ _ (ih _ b)
theorem script_of {l : OpenLaw} {n : Nat} (hn : l.most = some n) {P : Params} {h : Heap} {args : List WData} {vals : List Value}
    (hpre : l.row.toRowW.claim.pre args = true) (hwl : WellAll P h vals args) :
    ∃ a vs ns, vals = [Value.ref a] ∧ args = [WData.list (ns.map WData.int)] ∧ h.get? a = some { cls := .type "list", data := .seq vs.toArray } ∧ IntsAre vs ns ∧ ns.length ≤ n := by
  have hsh : WShape.hasAll [] args [.list .int] = true := (pre_splitW hpre).1
  have hc : l.pre.holds [] { args := args } = true := (pre_splitW hpre).2
  obtain ⟨d, r, rfl, h1, h2⟩ := hasAllW_cons hsh
  obtain rfl := hasAllW_nil h2
  obtain ⟨xs, rfl, h3⟩ := hasW_list h1
  obtain ⟨ns, rfl⟩ := items_int h3
  have hlen : ns.length ≤ n := by
    unfold OpenLaw.pre at hc
    have h4 : (WTm.not (.lt (.lit (.int (n : Int))) (.len (.arg 0)))).holds [] { args := [.list (ns.map .int)] } = true := by
      have h4 := (holds_andW hc).1
      rw [hn] at h4
      exact h4
    have h5 := condW_of h4 (w_not (w_lt w_lit (w_len_list (w_arg rfl))))
    rw [List.length_map] at h5
    refine Nat.le_of_not_lt fun q => ?_
    have q' : (n : Int) < ((ns.length : Nat) : Int) := by omega
    first
      | (rw [decide_eq_true q'] at h5; exact absurd h5 (by decide))
      | (simp at h5; omega)
  cases hwl with
  | cons w1 w2 =>
    cases w2
    cases w1 with
    | list ho hall => exact ⟨_, _, ns, rfl, rfl, ho, ints_of_wellAll ns _ hall, hlen⟩
theorem post_true (l : OpenLaw) (args : List WData) : l.row.toRowW.claim.post args (.bool true) args = true :=
  postW_of (r := l.row.toRowW) (X := (true == true))
    (show WShape.has [] (.bool true) .bool = true by first | rfl | decide | simp [WShape.has, WShape.arms, WShape.armsAll])
    (show (WTm.eq .res (.lit (.bool true))).value [] { args := args, res := some (.bool true), after := args } = some (.bool (true == true)) from w_eq_bool (w_res rfl) w_lit) rfl
theorem attach_call {l : OpenLaw} {n : Nat} {q : Program} {loose : List Str} {XP : (Str → Option Value) → Heap → Prop} {YP : World → Heap → Prop} {d : DefRec}
    (hn : l.most = some n) (hdf : d.params.defaults = [])
    (call : ∀ (w : World) (s₀ s₁ : Shared) (mg mb : Str → Option Value) (fa : Addr) (o : Obj) (pm cd doc : Value) (a : Addr) (vs : List Value) (ns : List Int),
      Ground q loose [] XP w s₀ mg mb s₁.heap → YP w s₁.heap →
      s₁.heap.get? fa = some o → o.data = .func (docDef d.name d.params d.body d.scope pm cd doc) → s₁.heap.CodeRec cd d.name → mg d.name = some (.ref fa) →
      s₁.heap.get? a = some { cls := .type "list", data := .seq vs.toArray } → IntsAre vs ns → ns.length ≤ n → s₁.gens = #[] →
      codeAny (model l.prog w) callerA (.call (.ref fa) ⟨[.ref a], []⟩) (fun r s' => r = .ok (.ret (.bool true)) ∧ OldK s₁.heap s'.heap ∧ s'.os = s₁.os ∧ AllBare s'.gens) s₁) :
    WalkO q loose XP YP l.row.toRowW d [] (fun f vs => PySem.call f vs) := by
  intro w s₀ s₁ mg mb G Y fa o pm cd doc dV kV ho hd hcd hD hmg hg args vals as hpre hlay hrd hwl hlo
  obtain rfl : dV = .none := Dflts.none hD hdf
  obtain rfl : kV = .none := Dflts.noKw hD
  obtain ⟨a, vs, ns, rfl, rfl, hobj, hints, hlen⟩ := script_of hn hpre hwl
  refine enter_call (codeAny_mono (call w s₀ s₁ mg mb fa o pm cd doc a vs ns G Y ho (fd_plain hd) hcd hmg hobj hints hlen hg) fun r s' hq => ?_)
  obtain ⟨rfl, h2, h3, h4⟩ := hq
  exact ⟨.inl ⟨.bool true, .bool true, [], rfl, fun _ => rfl, .bool true, post_true l _, fun _ => ⟨List.Pairwise.nil, fun _ hm => (nomatch hm)⟩⟩, h2, h3, h4⟩
section
variable {prog : Program} {w : World} {A : Around} {E : Value → Shared → Prop} {s : Shared} {K : Frag}
end
end Att
namespace L2
open PySem PySem.Spec PyProof.Rows
theorem vals_ints : ∀ {vs : List Value} {ns : List Int}, IntsAre vs ns → Vals (ns.map V.int) vs
  | _, _, .nil => .nil
  | _, _, .cons n t h => .cons ⟨t, rfl⟩ (vals_ints h)
def Only (H : Hp) : Prop := ∀ b, H b = none ∨ ∃ o xs, H b = some (.frz o (.lst xs))
theorem law_call {P : Program} {w : World} {K : PySem.W.Frag} {mg mb : Str → Option Value} {CX : CXT} {k : Nat} {fa a : Addr} {fd : FuncData} {x : Str} {sp : Sp} {s₁ : Shared} {vs : List Value} {ns : List Int}
    (KX : K.In s₁.heap) (hns : s₁.heap.Ns mainGlobals mg) (hb : s₁.heap.Ns builtinsNs mb) (hbb : ∀ x : Str, x ≠ "__name__" → mb x = bootBuiltins x) (hlim : s₁.heap.NoLimit) (hg : s₁.gens = #[])
    (ha : s₁.heap.get? a = some { cls := .type "list", data := .seq vs.toArray }) (hi : IntsAre vs ns) (hl : ns.length ≤ sizeLine) (hr : Room k callerA)
    (F : ∀ base : Heap, K.In base → base.Ns mainGlobals mg → FnOk P w K mg base CX k fa fd [x] sp) (hbind : ∀ (s : Shared) (u : Value), BindsTo s fd ⟨[u], []⟩ [(x, u)])
    (hsp : ∀ H : Hp, Only H → SqL K H a (ns.map V.int) → sp [.ref a] H (fun v _ => v = .bl true) fun _ _ _ => False)
    (hCX : ∀ H e s', CX [] H s₁ (fun _ _ _ => False) e s' → False) :
    codeAny (model P w) callerA (.call (.ref fa) ⟨[.ref a], []⟩) (fun r s' => r = .ok (.ret (.bool true)) ∧ OldK s₁.heap s'.heap ∧ s'.os = s₁.os ∧ AllBare s'.gens) s₁ := by
  have rv := vals_ints hi
  have lenV := hi.length
  have core : ∀ H : Hp, Only H → SqL K H a (ns.map V.int) → HOk P w H s₁.heap → (∀ b, H b ≠ none → b = a) → (H a ≠ none → K.lookup a = none) →
      codeAny (model P w) callerA (.call (.ref fa) ⟨[.ref a], []⟩) (fun r s' => r = .ok (.ret (.bool true)) ∧ OldK s₁.heap s'.heap ∧ s'.os = s₁.os ∧ AllBare s'.gens) s₁ := by
    intro H hO hS hok hA hK
    have base_of : ∀ {b : Addr} {o : Obj}, s₁.heap.get? b = some o → H b = none → (hidT s₁.heap H).get? b = some o := fun e n => hidT_get e n
    have noA : ∀ {b : Addr} {o : Obj} {es : Array DictEntry} {ep : Nat}, s₁.heap.get? b = some o → o.data = .dict es ep → H b = none := fun {b o es ep} e d => by
      cases q : H b with
      | none => rfl
      | some u =>
        have e' : b = a := hA b (by rw [q]; simp)
        subst e'
        rw [ha] at e; cases e
        have d' : Data.seq vs.toArray _ = Data.dict es ep := d
        cases d'
    have nsK : ∀ {b : Addr} {m : Str → Option Value}, s₁.heap.Ns b m → (hidT s₁.heap H).Ns b m := fun {b m} ⟨o, es, ep, e, d, r⟩ => ⟨o, es, ep, base_of e (noA e d), d, r⟩
    have hKb : K.In (hidT s₁.heap H) := fun b o e => base_of (KX b o e) (by
      cases q : H b with
      | none => rfl
      | some u =>
        have e' : b = a := hA b (by rw [q]; simp)
        subst e'
        rw [hK (by rw [q]; simp)] at e; cases e)
    have hM : Mod K mg (hidT s₁.heap H) := ⟨hKb, nsK hns, ⟨mb, nsK hb, hbb⟩, let ⟨mc, h1, h2⟩ := hlim; ⟨mc, nsK h1, h2⟩⟩
    have e0 : Env0 P w K mg (hidT s₁.heap H) callerA [] s₁ H := ⟨rfl, hM, fun b o e => of_hidT e, Nat.le_of_eq (hidT_size _ _), trivial, fun b hb => absurd (show b ∈ ([] : List Addr) from hb) (by simp), hok, .of_eq hg⟩
    refine codeAny_mono ((F _ hKb (nsK hns)).run callerA [] s₁ H ⟨[.ref a], []⟩ [.ref a] [.ref a] _ _ hr e0 (hbind s₁ (.ref a)) (.cons rfl .nil) (hsp H hO hS)) fun r s' h => ?_
    cases r with
    | error e => exact (hCX H e s' h).elim
    | ok fl =>
      cases fl with
      | next => exact False.elim h
      | brk => exact False.elim h
      | cont => exact False.elim h
      | ret u =>
        obtain ⟨v, H', os, bare, un, hok', r', q⟩ := h
        have q' : v = .bl true := q
        subst q'
        obtain rfl : u = Value.bool true := r'
        refine ⟨rfl, OldK.of_keep fun b o e => ?_, os, bare⟩
        cases q : H b with
        | none => exact un.keep b o e q (by intro z; exact absurd (show b ∈ ([] : List Addr) from z) (by simp)) (by simp)
        | some u =>
          rcases hO b with z | ⟨ob, xs, z⟩
          · rw [q] at z; cases z
          · have z2 := un.frzs b ob _ z
            obtain ⟨e1, _⟩ := hok b _ z
            obtain ⟨e2, _⟩ := hok' b _ z2
            rw [e] at e1; cases e1
            exact e2
  cases hk : K.lookup a with
  | some o =>
    have e := KX a o hk
    rw [ha] at e
    cases e
    refine core (fun _ => none) (fun _ => .inl rfl) (.inr ⟨_, vs.toArray, _, hk, rfl, rfl, rfl, by rw [List.size_toArray, lenV]; exact hl, by simpa using rv⟩) (fun b u z => by have z' : (none : Option HO) = some u := z; cases z') (fun b z => absurd rfl z) fun z => absurd rfl z
  | none =>
    refine core (fun b => if b = a then some (.frz { cls := .type "list", data := .seq vs.toArray } (.lst (ns.map V.int))) else none) (fun b => ?_) (.inl (.inr ⟨{ cls := .type "list", data := .seq vs.toArray }, if_pos rfl⟩)) (fun b u z => ?_) (fun b z => ?_) fun _ => hk
    · by_cases hb : b = a
      · exact .inr ⟨_, _, if_pos hb⟩
      · exact .inl (if_neg hb)
    · by_cases hb : b = a
      · have z' := (if_pos hb).symm.trans z
        cases z'
        subst hb
        exact ⟨ha, by rw [List.length_map]; exact hl, vs, _, rv, ha⟩
      · have z' := (if_neg hb).symm.trans z
        cases z'
    · by_cases hb : b = a
      · exact hb
      · exact absurd (if_neg hb) z
end L2
namespace L2
open PySem PySem.Spec PyProof.Rows
theorem walk_of {l : PySem.W.OpenLaw} {n k : Nat} {q : Program} {loose : List Str} {XP : (Str → Option Value) → Heap → Prop} {YP : World → Heap → Prop} {d : DefRec} {K : Params → PySem.W.Frag} {CX : World → CXT} {sp : World → Sp} {x : Str}
    (hn : l.most = some n) (hn2 : n ≤ sizeLine) (hdf : d.params.defaults = []) (hr : Room k callerA)
    (hY : ∀ (w : World) (h : Heap), YP w h → (K w.params).In h)
    (F : ∀ (w : World) (mg : Str → Option Value) (fa : Addr) (h : Heap), (K w.params).In h → h.Ns mainGlobals mg → mg d.name = some (.ref fa) →
      ∃ fd : FuncData, (∀ (s : Shared) (u : Value), BindsTo s fd ⟨[u], []⟩ [(x, u)]) ∧
        ∀ base : Heap, (K w.params).In base → base.Ns mainGlobals mg → FnOk l.prog w (K w.params) mg base (CX w) k fa fd [x] (sp w))
    (hsp : ∀ (w : World) (H : Hp) (a : Addr) (ns : List Int), ns.length ≤ n → Only H → SqL (K w.params) H a (ns.map V.int) → sp w [.ref a] H (fun v _ => v = .bl true) fun _ _ _ => False)
    (hCX : ∀ (w : World) (H : Hp) (s : Shared) (e : Value) (s' : Shared), CX w [] H s (fun _ _ _ => False) e s' → False) :
    PySem.W.WalkO q loose XP YP l.row.toRowW d [] (fun f vs => PySem.call f vs) := by
  refine Att.attach_call hn hdf fun w s₀ s₁ mg mb fa o pm cd doc a vs ns G Y ho hd hcd hmg hobj hints hlen hg => ?_
  have KX := hY w _ Y
  obtain ⟨fd, hb, hF⟩ := F w mg fa _ KX G.T.g hmg
  exact law_call KX G.T.g G.T.b G.T.builtins G.T.nolimit hg hobj hints (Nat.le_trans hlen hn2) hr hF hb (fun H hO hS => hsp w H a ns hlen hO hS) fun H e s' => hCX w H s₁ e s'
end L2
namespace L2
open PySem PySem.Spec PyProof.Rows
def defArgs (s : Stmt) : Arguments := match s with
  | .FunctionDef _ a _ _ _ _ _ _ _ _ => a
  | _ => { posonlyargs := [], args := [], vararg := none, kwonlyargs := [], kw_defaults := [], kwarg := none, defaults := [] }
def defBody (s : Stmt) : List Stmt := match s with
  | .FunctionDef _ _ b _ _ _ _ _ _ _ => b
  | _ => []
def defScope (s : Stmt) : Scope := match s with
  | .FunctionDef _ _ _ _ _ _ sc _ _ _ => sc
  | _ => { kind := .function, names := [], isGenerator := false, isCoroutine := false }
abbrev CX0 : CXT := fun _ _ _ _ _ _ => False
abbrev E0 : XK := fun _ _ _ => False
theorem pass0 {X : Cx} : Passes CX0 X E0 := fun _ _ _ _ _ _ _ h => h.elim
structure Fun (K : PySem.W.Frag) (x qual : Str) (st : Stmt) (f : Addr) (fd : FuncData) : Prop where
  ex : ∃ (oc : Value) (od : Option Addr) (kV doc pm : Value) (an : Option Addr) (cdv ct : Value) (osl : Array (Option Value)),
    fd = PySem.W.fnOf x qual (defArgs st) (defBody st) (defScope st) .none kV doc pm an cdv ct ∧ K.lookup f = some ⟨oc, od, .func fd, osl⟩ ∧ PySem.W.codeIn K cdv qual = true
  kp : PySem.W.keepIn K (.ref f) = true
section
variable {P : Program} {w : World} {K : PySem.W.Frag} {mg : Str → Option Value} {base : Heap}
theorem Fun.ok {x qual : Str} {st : Stmt} {f : Addr} {fd : FuncData} {N ps : List Str} {k : Nat} {sp : Sp} (F : Fun K x qual st f fd) (S : FnScope N ps (defScope st)) (len : ∀ vs H Q E, sp vs H Q E → vs.length = ps.length)
    (hbody : ∀ (cdv : Value) (A : Around) (outer : List Env) (s : Shared) (H : Hp) (vs : List V) (Q : VK) (E : XK), Room k (A.deeper (envOfC qual (defScope st) s.heap.objs.size f cdv)) → sp vs H Q E →
      ∃ t, PSs (cxOf CX0 P w K mg base N qual (defScope st) f cdv A outer s H E).nox (defBody st) t ∧ t { nx := fun _ H' => Q .non H', rt := Q } (start N vs) H) : FnOk P w K mg base CX0 (k + 1) f fd ps sp := by
  obtain ⟨oc, od, kV, doc, pm, an, cdv, ct, osl, rfl, lk, hcd⟩ := F.ex
  refine fn_of lk hcd S len fun A outer s H vs Q E hr hsp => ?_
  obtain ⟨t, h, q⟩ := hbody cdv A outer s H vs Q E hr hsp
  exact ⟨t, h.nox, q⟩
theorem Fun.binds {x qual : Str} {st : Stmt} {f : Addr} {fd : FuncData} {ps : List Str} (F : Fun K x qual st f fd)
    (h : ∀ (kV doc pm : Value) (an : Option Addr) (cdv ct : Value) (us : List Value), us.length = ps.length → bindArgs (PySem.W.fnOf x qual (defArgs st) (defBody st) (defScope st) .none kV doc pm an cdv ct) ⟨us, []⟩ = pure (ps.zip us)) : Binds K fd ps [] := by
  obtain ⟨oc, od, kV, doc, pm, an, cdv, ct, osl, rfl, lk, hcd⟩ := F.ex
  exact .all (h kV doc pm an cdv ct)
theorem fun_mk {x qual : Str} {st : Stmt} {f : Addr} {oc : Value} {od an : Option Addr} {osl : Array (Option Value)} {kV doc pm cdv ct : Value} (l : K.lookup f = some ⟨oc, od, .func (PySem.W.fnOf x qual (defArgs st) (defBody st) (defScope st) .none kV doc pm an cdv ct), osl⟩)
    (c : PySem.W.codeIn K cdv qual = true) (k : PySem.W.keepIn K (.ref f) = true) : Fun K x qual st f (PySem.W.fnOf x qual (defArgs st) (defBody st) (defScope st) .none kV doc pm an cdv ct) := ⟨⟨oc, od, kV, doc, pm, an, cdv, ct, osl, rfl, l, c⟩, k⟩
end
theorem hu_of {A : Around} {k : Nat} (hr : Room k A) : A.units + 1 < cLine := Nat.lt_of_le_of_lt (Nat.add_le_add_left (by decide : 1 ≤ 64) _) hr.units
section
variable {X : Cx}
theorem pv (i : Nat) {x : Str} {pos : Pos} (hN : X.N[i]? = some x := by rfl) (hv : Vis X.env.scope x := by first | exact Or.inl rfl | exact Or.inr (Or.inl rfl) | exact Or.inr (Or.inr rfl)) (hd : (x == ("__debug__" : Str)) = false := by decide)
    (hcd : (x == ("__classdict__" : Str)) = false := by decide) : PE X (.Name x pos) (tVar i) := pe_var hN hv hd hcd
end
theorem iteF {A B : Prop} (h : B) : if false = true then A else B := by
  rw [if_neg Bool.false_ne_true]
  exact h
theorem iteT {A B : Prop} (h : A) : if true = true then A else B := by
  rw [if_pos rfl]
  exact h
theorem ite2 {c A B : Prop} [Decidable c] (h1 : c → A) (h2 : ¬ c → B) : if c then A else B := by
  by_cases h : c
  · rw [if_pos h]
    exact h1 h
  · rw [if_neg h]
    exact h2 h
def Same (H H' : Hp) : Prop := ∀ b o, H b = some o → H' b = some o
theorem Same.refl (H : Hp) : Same H H := fun _ _ h => h
theorem Same.trans {H H1 H2 : Hp} (a : Same H H1) (b : Same H1 H2) : Same H H2 := fun c o h => b c o (a c o h)
theorem Same.free {H H' : Hp} (e : Same H H') {l : Addr} (h : H' l = Option.none) : H l = Option.none := by
  cases q : H l with
  | none => rfl
  | some o =>
    rw [e l o q] at h
    cases h
theorem Same.seq {K : PySem.W.Frag} {H H' : Hp} {a : Addr} {xs : List V} (e : Same H H') (h : SqL K H a xs) : SqL K H' a xs := by
  rcases h with (h | ⟨o, h⟩) | h
  · exact .inl (.inl (e _ _ h))
  · exact .inl (.inr ⟨o, e _ _ h⟩)
  · exact .inr h
end L2
set_option Elab.async false
set_option linter.all false
set_option maxRecDepth 100000
namespace L2
open PySem PySem.Spec PyProof.Rows
def cxBlk (X : Cx) (scope : Scope) (cl : List (Str × Addr)) (C : Addr) (N : List Str) (fp : List Addr) (s : Shared) (H : Hp) : Cx :=
  { X with N := N, s₀ := s, H₀ := H, env := compEnvC scope cl C X.env, outer := X.stack, ex := fp, fn := fun _ => false, pn := [], xe := fun _ _ => False }
def PTs (X : Cx) (ifs : List Expr) (t : TT) : Prop :=
  ∀ (pins : List (Addr × Obj)) (s : Shared) (σ : St) (H : Hp) (Q : Bool → Hp → Prop), Inv X pins σ H s → t σ H Q →
    wpAny (model X.prog X.w) X.A (forIn ifs true fun c r => if r = true then do let ok ← isTrue c X.env (eval c X.env); pure (ForInStep.yield ok) else pure (ForInStep.yield r)) (TP X pins σ Q) X.xe s
def tTrue : TT := fun _ H Q => Q true H
theorem pts_nil {X : Cx} : PTs X [] tTrue := fun _ _ _ H _ I h => wpAny_tests_nil ⟨H, I, h⟩
theorem codeAny_compLoop_go {prog : Program} {w : World} {A : Around} {R : Result → Shared → Prop} {s : Shared} {elt target iter : Expr} {ifs : List Expr} {scope : Scope} {pos : Pos} {it acc : Value} {env : Env} (I : Nat → Shared → Prop)
    (turn : ∀ n s, I n s → wpAny (model prog w) A (pyNext it) (fun r s₁ => match r with
      | none => R (.ok .next) s₁
      | some v => wpAny (model prog w) A (letOwnedTupleGo target it v) (fun _ s₁' => wpAny (model prog w) A (assign target env v) (fun _ s₂ =>
          wpAny (model prog w) A (forIn ifs true fun c r => if r = true then do let ok ← isTrue c env (eval c env); pure (ForInStep.yield ok) else pure (ForInStep.yield r)) (fun ok s₃ =>
            if ok = true then wpAny (model prog w) A (eval elt env) (fun x s₄ =>
              wpAny (model prog w) A (call (.builtin "list.append") [acc, x]) (fun _ s₅ => ∃ m, m < n ∧ I m s₅) (fun _ _ => False) s₄) (fun _ _ => False) s₃
            else ∃ m, m < n ∧ I m s₃) (fun _ _ => False) s₂) (fun _ _ => False) s₁') (fun _ _ => False) s₁) (fun _ _ => False) s)
    (n : Nat) (h : I n s) :
    codeAny (model prog w) A (.compLoop (.ListComp elt [⟨target, iter, ifs, 0⟩] scope pos) 0 it acc env) R s := by
  have lift : ∀ {α : Type} {t : Sem α} {Q : α → Shared → Prop} {E : Value → Shared → Prop} {s : Shared}, wpAny (model prog w) A t Q (fun _ _ => False) s → wpAny (model prog w) A t Q E s :=
    fun h => wpAny_mono h (fun _ _ q => q) fun _ _ q => q.elim
  refine codeAny_loop rfl I (fun n s hI => ?_) n h
  show wpAny _ A ((compTurn (.ListComp elt [⟨target, iter, ifs, 0⟩] scope pos) 0 it acc env).onRaise (fun x => do noteFrame x env; theTreesLotGoes x)) _ _ s
  refine wpAny_noted ?_
  rw [compTurn_list]
  refine wpAny_bind (wpAny_standAt (wpAny_bind (wpAny_mono (lift (turn n s hI)) (fun r s₁ h₁ => ?_) fun _ _ h' => h')))
  cases r with
  | none => exact wpAny_pure h₁
  | some v =>
    refine wpAny_bind (wpAny_mono (lift h₁) (fun _ s₁' h₁' => ?_) fun _ _ h' => h')
    refine wpAny_bind (wpAny_mono (lift h₁') (fun _ s₂ h₂ => wpAny_bind (wpAny_mono (lift h₂) (fun ok s₃ h₃ => ?_) fun _ _ h' => h')) fun _ _ h' => h')
    cases ok with
    | false => exact wpAny_pure ⟨rfl, h₃⟩
    | true =>
      exact wpAny_bind (wpAny_bind (wpAny_mono (lift h₃) (fun x s₄ h₄ => wpAny_bind (wpAny_mono (lift h₄) (fun _ s₅ h₅ => wpAny_pure (wpAny_pure ⟨rfl, h₅⟩)) fun _ _ h' => h')) fun _ _ h' => h'))
def BsOk (XN : List Str) (xn sn : List (Str × NameKind)) : List Str → List (Option Nat) → Prop
  | [], [] => True
  | _ :: N, none :: bs => BsOk XN xn sn N bs
  | x :: N, some j :: bs => (XN[j]? = some x ∧ xn.lookup x = some .cell ∧ sn.lookup x = some .free) ∧ BsOk XN xn sn N bs
  | _, _ => False
def bst (bs : List (Option Nat)) (σ : St) : St := bs.map fun o => o.bind fun j => (σ[j]?).join
theorem BsOk.len {XN : List Str} {xn sn : List (Str × NameKind)} : ∀ {N : List Str} {bs : List (Option Nat)}, BsOk XN xn sn N bs → bs.length = N.length
  | [], [], _ => rfl
  | _ :: N, none :: bs, h => congrArg (· + 1) (BsOk.len (N := N) (bs := bs) h)
  | _ :: N, some _ :: bs, h => congrArg (· + 1) (BsOk.len (N := N) (bs := bs) h.2)
theorem BsOk.get {XN : List Str} {xn sn : List (Str × NameKind)} : ∀ {N : List Str} {bs : List (Option Nat)} {i j : Nat}, BsOk XN xn sn N bs → bs[i]? = some (some j) → ∃ x, N[i]? = some x ∧ XN[j]? = some x ∧ xn.lookup x = some .cell ∧ sn.lookup x = some .free
  | [], [], _, _, _, e => by simp at e
  | _ :: N, none :: bs, 0, _, _, e => by simp at e
  | _ :: N, none :: bs, i + 1, j, h, e => by
    obtain ⟨x, h1, h2⟩ := BsOk.get (N := N) (bs := bs) (i := i) (j := j) h (by simpa using e)
    exact ⟨x, by simpa using h1, h2⟩
  | x :: N, some k :: bs, 0, j, h, e => by
    have : k = j := by simpa using e
    subst this
    exact ⟨x, rfl, h.1⟩
  | _ :: N, some k :: bs, i + 1, j, h, e => by
    obtain ⟨x, h1, h2⟩ := BsOk.get (N := N) (bs := bs) (i := i) (j := j) h.2 (by simpa using e)
    exact ⟨x, by simpa using h1, h2⟩
theorem relabel_free {env : Env} : ∀ {names : List (Str × NameKind)} {x : Str}, names.lookup x = some .free →
    ((names.map fun (n, k) => if (k == NameKind.free && env.scope.kind == .function && env.kindOf n == some .cell) then (n, NameKind.cell) else (n, k)).lookup x = some .cell ∨
    (names.map fun (n, k) => if (k == NameKind.free && env.scope.kind == .function && env.kindOf n == some .cell) then (n, NameKind.cell) else (n, k)).lookup x = some .free)
  | [], _, h => by simp at h
  | (n, k) :: r, x, h => by
    have ih := @relabel_free env r x
    simp only [List.map_cons]
    cases hx : x == n with
    | true =>
      simp only [List.lookup_cons, hx] at h
      cases h
      by_cases hc : (NameKind.free == NameKind.free && env.scope.kind == .function && env.kindOf n == some .cell) = true
      · rw [if_pos hc]; simp only [List.lookup_cons, hx]; simp
      · rw [if_neg hc]; simp only [List.lookup_cons, hx]; simp
    | false =>
      simp only [List.lookup_cons, hx] at h
      by_cases hc : (k == NameKind.free && env.scope.kind == .function && env.kindOf n == some .cell) = true
      · rw [if_pos hc]; simp only [List.lookup_cons, hx]; exact ih h
      · rw [if_neg hc]; simp only [List.lookup_cons, hx]; exact ih h
theorem relabel_back {env : Env} : ∀ {names : List (Str × NameKind)} {x : Str}, (∀ y ∈ names, y.2 ≠ .cell) →
    ((names.map fun (n, k) => if (k == NameKind.free && env.scope.kind == .function && env.kindOf n == some .cell) then (n, NameKind.cell) else (n, k)).lookup x = some .cell ∨
    (names.map fun (n, k) => if (k == NameKind.free && env.scope.kind == .function && env.kindOf n == some .cell) then (n, NameKind.cell) else (n, k)).lookup x = some .free) → names.lookup x = some .free
  | [], _, _, h => by simp at h
  | (n, k) :: r, x, hn, h => by
    have ih := @relabel_back env r x fun y hy => hn y (.tail _ hy)
    simp only [List.map_cons] at h
    cases hx : x == n with
    | true =>
      by_cases hc : (k == NameKind.free && env.scope.kind == .function && env.kindOf n == some .cell) = true
      · simp only [Bool.and_eq_true, beq_iff_eq] at hc
        simp only [List.lookup_cons, hx]
        rw [hc.1.1]
      · rw [if_neg hc] at h
        simp only [List.lookup_cons, hx] at h ⊢
        rcases h with h | h
        · exact absurd (Option.some.inj h) (hn (n, k) (.head _))
        · exact h
    | false =>
      simp only [List.lookup_cons, hx]
      by_cases hc : (k == NameKind.free && env.scope.kind == .function && env.kindOf n == some .cell) = true
      · rw [if_pos hc] at h; simp only [List.lookup_cons, hx] at h; exact ih h
      · rw [if_neg hc] at h; simp only [List.lookup_cons, hx] at h; exact ih h
structure Blk (X : Cx) (scope : Scope) (cl : List (Str × Addr)) (N : List Str) (bs : List (Option Nat)) : Prop where
  clos : closureFor scope X.env = pure cl
  kind : scope.kind = .function
  cell : ∀ y ∈ scope.names, y.2 ≠ .cell
  names : ∀ y ∈ scope.names, y.2 = .local → scope.names.lookup y.1 = some .local
  cl1 : ∀ p ∈ cl, X.env.cells.lookup p.1 = some p.2
  cl2 : ∀ y ∈ scope.names, y.2 = .free → (cl.lookup y.1).isSome = true
  bs : BsOk X.N X.env.scope.names scope.names N bs
section
variable {X : Cx} {scope : Scope} {cl : List (Str × Addr)} {N : List Str} {bs : List (Option Nat)} {pins : List (Addr × Obj)} {σ : St} {H : Hp} {s : Shared} {fp : List Addr} {C : Addr}
theorem Blk.c1 (B : Blk X scope cl N bs) {x : Str} {c : Addr} (h : cl.lookup x = some c) : X.env.cells.lookup x = some c := B.cl1 (x, c) (PySem.mem_of_lookup h)
theorem Blk.c2 (B : Blk X scope cl N bs) {x : Str} (h : (compEnvC scope cl C X.env).kindOf x = some .cell ∨ (compEnvC scope cl C X.env).kindOf x = some .free) : ∃ c, cl.lookup x = some c := by
  have h1 := relabel_back (env := X.env) B.cell h
  exact Option.isSome_iff_exists.mp (B.cl2 (x, .free) (PySem.mem_of_lookup h1) rfl)
theorem Blk.ok (B : Blk X scope cl N bs) (I : Inv X pins σ H s) (hf : ∀ b ∈ fp, FpOk X pins H b) (ho : ∀ b ∈ fp, ∃ o, s.heap.get? b = some o ∧ ∀ v, o.data ≠ .cell v) (hC : s.heap.objs.size ≤ C) : (cxBlk X scope cl C N fp s H).Ok := by
  refine ⟨I.ok.mod, B.kind, I.ok.glob, I.ok.blt, hC, fun x y c h1 h2 => I.ok.inj x y c (B.c1 h1) (B.c1 h2), fun x h => B.c2 h, fun x c h _ => (Bool.false_ne_true h).elim, I.ok.hd, I.ok.frames, .inl rfl, fun b hb => ?_, I.bs, Nat.le_trans I.ok.bsz I.sz, fun b o e hb => ?_, fun b hb hb' => ?_, I.stack, I.stkFree⟩
  · obtain ⟨o, e, _⟩ := ho b hb
    obtain ⟨_, _, _, _, f4, _⟩ := hf b hb
    exact ⟨Nat.ne_of_lt (Nat.lt_of_lt_of_le (Heap.lt_size e) hC), fun x c h => f4 x c (B.c1 h)⟩
  · obtain ⟨_, _, _, f3, _⟩ := hf b hb
    rcases f3 with z | z
    · exact I.ok.noex b o e z
    · exact absurd (Nat.lt_of_lt_of_le (Heap.lt_size e) (Nat.le_trans I.ok.bsz z)) (Nat.lt_irrefl _)
  · obtain ⟨_, f1, f2, _⟩ := hf b hb
    rcases List.mem_cons.mp (I.stkSub b hb') with z | z
    · exact f1 z
    · exact f2 z
theorem Blk.inv (B : Blk X scope cl N bs) (I : Inv X pins σ H s) (hf : ∀ b ∈ fp, FpOk X pins H b) (ho : ∀ b ∈ fp, ∃ o, s.heap.get? b = some o ∧ ∀ v, o.data ≠ .cell v) (hC : s.heap.objs.size ≤ C) {h' : Heap} {t' : Nat}
    (hk : ∀ b o, s.heap.get? b = some o → h'.get? b = some o) {m : Str → Option Value} (hn : h'.Ns C m) {D : Addr} {oD : Obj} (hD : h'.get? D = some oD) (hD1 : s.heap.objs.size ≤ D) (hDC : D ≠ C) (hDd : ∀ v, oD.data ≠ .cell v) :
    Inv (cxBlk X scope cl C N fp s H) [(D, oD)] (bst bs σ) H { s with heap := h', toks := t' } := by
  have ok : (cxBlk X scope cl C N fp s H).Ok := B.ok I hf ho hC
  refine ⟨ok, rfl, I.bare, Un.kept hk, ⟨m, hn, fun i x v e1 e2 e3 => ?_⟩, fun x c h => ?_, I.hok.fresh hC, fun x c h => I.freeC x c (B.c1 h), fun p hp => ?_, I.hok.kept hk, ?_⟩
  · have e2' : (bst bs σ)[i]? = some (some v) := e2
    unfold bst at e2'
    rw [List.getElem?_map] at e2'
    cases q : bs[i]? with
    | none => rw [q] at e2'; cases e2'
    | some o =>
      rw [q] at e2'
      cases o with
      | none => cases e2'
      | some j =>
        obtain ⟨y, y1, y2, y3, y4⟩ := B.bs.get q
        have e1' : N[i]? = some x := e1
        rw [e1'] at y1
        cases y1
        have e4 : σ[j]? = some (some v) := by
          have z : (σ[j]?).join = some v := Option.some.inj e2'
          cases w : σ[j]? with
          | none => rw [w] at z; cases z
          | some o => rw [w] at z; rw [show o = some v from z]
        obtain ⟨mx, hmx, lx⟩ := I.loc
        obtain ⟨u, r, l⟩ := lx j x v y2 e4 (.inr (.inl y3))
        refine ⟨u, r, .inr ⟨relabel_free (env := X.env) y4, ?_⟩⟩
        rcases l with ⟨l1, _⟩ | ⟨_, c, l2, l3⟩
        · have l1' : X.env.scope.names.lookup x = some .local := l1
          rw [y3] at l1'
          cases l1'
        · obtain ⟨c', h'⟩ := Option.isSome_iff_exists.mp (B.cl2 (x, .free) (PySem.mem_of_lookup y4) rfl)
          have h2 := B.c1 h'
          rw [l2] at h2
          cases h2
          obtain ⟨oc, hoc, hd⟩ := l3
          exact ⟨c, h', oc, hk _ _ hoc, hd⟩
  · obtain ⟨v, oc, hoc, hd⟩ := I.cell x c (B.c1 h)
    exact ⟨v, oc, hk _ _ hoc, hd⟩
  · have e : p = (D, oD) := by simpa [cxBlk] using hp
    subst e
    refine ⟨hD, I.hok.fresh hD1, hDC, fun z => ?_, hDd⟩
    have z' : D ∈ frs X.stack := z
    rcases List.mem_cons.mp (I.stkSub D z') with q | q
    · exact Nat.lt_irrefl _ (Nat.lt_of_lt_of_le I.lt (by rw [← q]; exact hD1))
    · exact I.nofs hD1 q
  · show (bst bs σ).length = N.length
    unfold bst
    rw [List.length_map]
    exact B.bs.len
end
def tLC (bs : List (Option Nat)) (wi : TI) (g : TG) (tt : TT) (te : TE) : TE := fun σ H Q => wi σ H fun J H1 => ∃ W : Nat → Nat → List V → St → Hp → Prop, (∃ m, W 0 m [] (bst bs σ) H1) ∧ ∀ i m ys σ' H', W i m ys σ' H' →
  (J.stop i H' ∧ ys.length ≤ sizeLine ∧ ∀ p, H' p = none → Q (.ref p) (upd H' p (.lst ys))) ∨
  (J.go i H' ∧ ys.length < sizeLine ∧ ∃ N : List V → St → Hp → Prop, (∀ zs σ2 H2, N zs σ2 H2 → ∃ m', m' < m ∧ W (i + 1) m' zs σ2 H2) ∧ ∀ x H2, J.yld i H' x H2 → g x σ' H2 fun σ3 H3 => tt σ3 H3 fun b H4 =>
    if b = true then te σ3 H4 fun v H5 => N (ys ++ [v]) σ3 H5 else N ys σ3 H4)
theorem pe_lc {X : Cx} {scope : Scope} {cl : List (Str × Addr)} {N : List Str} {bs : List (Option Nat)} {tg iter elt : Expr} {ifs : List Expr} {pos : Pos} {wi : TI} {g : TG} {tt : TT} {te : TE} (B : Blk X scope cl N bs) (hc : X.calm = true)
    (hi : PI X tg iter wi) (hg : ∀ C fp s H, PG (cxBlk X scope cl C N fp s H) tg g) (ht : ∀ C fp s H, PTs (cxBlk X scope cl C N fp s H) ifs tt) (he : ∀ C fp s H, PE (cxBlk X scope cl C N fp s H) elt te)
    (hs : ∀ x, foldedSetIterable iter X.env x = pure x := by intro _; rfl) :
    PE X (.ListComp elt [⟨tg, iter, ifs, 0⟩] scope pos) (tLC bs wi g tt te) := by
  intro pins s σ H Q I h
  rw [eval_ListComp]
  refine wpAny_comprehension_free (use := none) rfl hs B.clos B.kind B.names (thn (hi pins s σ H _ I h) fun v s1 h1 => thn h1 fun itv s2 h2 => ?_)
  obtain ⟨it, fp, tn, J, H2, rfl, I2, T, st2, f2, W, ⟨m0, w0⟩, turn⟩ := h2
  refine wpAny_newObj_type (wpAny_newFunctionEnv B.cell (by intro y hy; simp at hy) (fun h₁ hns₁ hsb₁ => ?_) B.kind)
  dsimp only at hns₁ hsb₁ ⊢
  generalize hG : s2.heap.push { cls := .type "list", dict := none, data := .seq ([] : List Value).toArray } = G at hns₁ hsb₁ ⊢
  have hC : G.objs.size = s2.heap.objs.size + 1 := by rw [← hG, Heap.size_push]
  have hDC : s2.heap.objs.size ≠ G.objs.size := by rw [hC]; exact Nat.ne_of_lt (Nat.lt_succ_self _)
  have hCle : s2.heap.objs.size ≤ G.objs.size := by rw [hC]; exact Nat.le_succ _
  have old : ∀ b o, s2.heap.get? b = some o → h₁.get? b = some o := fun b o e => hsb₁.extBut b o (by rw [hC]; exact Nat.ne_of_lt (Nat.lt_succ_of_lt (Heap.lt_size e))) (Heap.get?_push_of_some _ (hG ▸ Heap.get?_push_of_some _ e))
  have hacc : h₁.get? s2.heap.objs.size = some { cls := .type "list", data := .seq ([] : List Value).toArray 0 } := hsb₁.extBut _ _ hDC (Heap.get?_push_of_some _ (hG ▸ Heap.get?_push_size _ rfl))
  have stat : ∀ {D : Addr} {o : Obj} {H' : Hp}, s2.heap.objs.size ≤ D → (∀ b ∈ fp, H' b = none) → ∀ b ∈ fp, FpOk (cxBlk X scope cl G.objs.size N fp s2 H2) [(D, o)] H' b := fun {D o H'} hD hn b hb => by
    obtain ⟨ob, eb, _⟩ := T.obj _ _ st2 b hb
    obtain ⟨_, f1, f3, f4, f5, _⟩ := f2 b hb
    have ok := B.ok I2 f2 (T.obj _ _ st2) (C := G.objs.size) hCle
    refine ⟨hn b hb, (ok.exf b hb).1, ok.exfs b hb, .inl hb, (ok.exf b hb).2, fun p hp => ?_⟩
    have e : p = (D, o) := by simpa [cxBlk] using hp
    subst e
    exact Nat.ne_of_gt (Nat.lt_of_lt_of_le (Heap.lt_size eb) hD)
  have loop : ∀ s₃ : Shared, s₃ = { s2 with heap := h₁, toks := s2.toks + ([] : List (Str × Value)).length } →
      codeAny (model X.prog X.w) X.A (.compLoop (.ListComp elt [⟨tg, iter, ifs, 0⟩] scope pos) 0 (.ref it) (.ref s2.heap.objs.size) (compEnvC scope cl G.objs.size X.env))
        (compPost (model X.prog X.w) X.A X.xe none (EP X pins σ Q) (.ref s2.heap.objs.size) G.objs.size) s₃ := by
    rintro s₃ rfl
    refine codeAny_compLoop_go (fun n s' => ∃ i ys its k σ' H', Inv (cxBlk X scope cl G.objs.size N fp s2 H2) [(s2.heap.objs.size, { cls := .type "list", data := .seq (List.toArray its) k })] σ' H' s' ∧ Vals ys its ∧ tn i s'.heap ∧ (∀ b ∈ fp, H' b = none) ∧ W i n ys σ' H') ?_ m0
      ⟨0, [], [], 0, bst bs σ, H2, B.inv I2 f2 (T.obj _ _ st2) hCle old hns₁ hacc (Nat.le_refl _) hDC (fun v z => nomatch z), .nil, T.keep _ _ _ st2 fun b _ o e => old b o e, fun b hb => (f2 b hb).1, w0⟩
    rintro n s3 ⟨i, ys, its, k, σ3, H3, I3, rv, st3, fr3, w3⟩
    have pD := I3.pin _ (List.mem_append_right _ (.head _))
    rcases turn i n ys σ3 H3 w3 with ⟨stop, hz, qn⟩ | ⟨go, hz, NN, hNN, step⟩
    · refine thn (T.done (cxBlk X scope cl G.objs.size N fp s2 H2) rfl rfl rfl hc i _ s3 σ3 H3 (fun _ _ => False) I3 (stat (Nat.le_refl _) fr3) st3 stop) fun r s4 ⟨hr, I4⟩ => ?_
      subst hr
      have pD4 := I4.pin _ (List.mem_append_right _ (.head _))
      obtain ⟨m4, hn4, _⟩ := I4.loc
      refine ⟨m4, hn4, fun h5 sb5 => ?_⟩
      have hD5 : h5.get? s2.heap.objs.size = some { cls := .type "list", data := .seq (List.toArray its) k } := sb5.extBut _ _ hDC pD4.1
      have k5 : ∀ b o, b ≠ G.objs.size → s4.heap.get? b = some o → h5.get? b = some o := fun b o hb e => sb5.extBut b o hb e
      have hC4 : H3 G.objs.size = none := I4.free
      have hok4 : HOk X.prog X.w H3 s4.heap := I4.hok
      have hok5 : HOk X.prog X.w (upd H3 s2.heap.objs.size (.lst ys)) h5 := fun b u e => by
        by_cases hb : b = s2.heap.objs.size
        · subst hb
          rw [upd_same] at e
          cases e
          exact ⟨hz, its, k, rv, hD5⟩
        · rw [upd_ne hb] at e
          have nC : ∀ c u', H3 c = some u' → c ≠ G.objs.size := fun c u' q z => by rw [z, hC4] at q; cases q
          have nD : ∀ c u', H3 c = some u' → c ≠ s2.heap.objs.size := fun c u' q z => by rw [z, pD4.2.1] at q; cases q
          refine (hok4 b u e).stay (fun c v hc' q => k5 c v ?_ q) (fun c q => by rw [upd_ne (nD c _ q)]; exact q) fun c xs q => by rw [upd_ne (nD c _ q)]; exact q
          rcases hc' with z | z
          · rw [z]; exact nC b u e
          · exact nC c _ z
      have un4 : Un (frs X.stack) fp H2 H3 s2.heap s4.heap := I4.base
      have neC : ∀ b o, s2.heap.get? b = some o → b ≠ G.objs.size := fun b o e => Nat.ne_of_lt (Nat.lt_of_lt_of_le (Heap.lt_size e) hCle)
      have neD : ∀ b o, s2.heap.get? b = some o → b ≠ s2.heap.objs.size := fun b o e => Nat.ne_of_lt (Heap.lt_size e)
      have un5 : Un (frs X.stack) fp H2 (upd H3 s2.heap.objs.size (.lst ys)) s2.heap h5 := {
        keep := fun b o e n hb hx => k5 b o (neC b o e) (un4.keep b o e n hb hx)
        slot := fun b o e n hb hx => let ⟨sl, q⟩ := un4.slot b o e n hb hx; ⟨sl, k5 b _ (neC b o e) q⟩
        free := fun b o e n hx => by rw [upd_ne (neD b o e)]; exact un4.free b o e n hx
        there := fun b o e hx => let ⟨o', q⟩ := un4.there b o e hx; ⟨o', k5 b _ (neC b o e) q⟩
        tups := fun b xs e => by rw [upd_ne (ne_of_none e (I2.hok.fresh (Nat.le_refl _)))]; exact un4.tups b xs e
        frzs := fun b o u e => by rw [upd_ne (ne_of_none e (I2.hok.fresh (Nat.le_refl _)))]; exact un4.frzs b o u e
        tbls := fun b ps e => by rw [upd_ne (ne_of_none e (I2.hok.fresh (Nat.le_refl _)))]; exact un4.tbls b ps e }
      refine ⟨.ref s2.heap.objs.size, _, I2.call' (s' := { s4 with heap := h5 }) ((show s4.os = s2.os from I4.os)) un5 hok5 I4.bare (fun b hb => ?_), rfl, qn _ pD4.2.1⟩
      obtain ⟨_, f1, f3, f4, f5, f6⟩ := f2 b hb
      exact ⟨f4, f1, f5, f6⟩
    · refine thn (T.item (cxBlk X scope cl G.objs.size N fp s2 H2) rfl rfl rfl hc i _ s3 σ3 H3 (fun _ _ => False) I3 (stat (Nat.le_refl _) fr3) st3 go) fun r s4 ⟨u, hr, h4⟩ => ?_
      subst hr
      refine thn h4 fun _ s5 ⟨x, H5, I5, r5, y5, st5, fr5⟩ => ?_
      have I5' := I5.pinned (stat (Nat.le_refl _) fr5) (T.obj _ _ st5)
      refine thn (hg _ _ _ _ _ s5 σ3 H5 x u _ I5' r5 (step x H5 y5)) fun _ s6 ⟨σ6, H6, I6, q6⟩ => ?_
      refine thn (ht _ _ _ _ _ s6 σ6 H6 _ I6 q6) fun ok s7 ⟨H7, I7, q7⟩ => ?_
      have back : ∀ {σ8 : St} {H8 : Hp} {s8 : Shared} {pl : List (Addr × Obj)}, Inv (cxBlk X scope cl G.objs.size N fp s2 H2) (pl ++ pinsAt fp s5.heap) σ8 H8 s8 → tn (i + 1) s8.heap ∧ ∀ b ∈ fp, H8 b = none := fun {σ8 H8 s8 pl} I8 =>
        ⟨T.keep _ _ _ st5 fun b hb o e => (I8.pin (b, o) (List.mem_append_right _ (List.mem_append_right _ (mem_pinsAt hb e)))).1, fun b hb => by
          obtain ⟨o, e, d⟩ := T.obj _ _ st5 b hb
          exact (I8.pin (b, o) (List.mem_append_right _ (List.mem_append_right _ (mem_pinsAt hb e)))).2.1⟩
      cases ok with
      | false =>
        rw [if_neg Bool.false_ne_true] at q7 ⊢
        obtain ⟨m', hm, w7⟩ := hNN _ _ _ q7
        exact ⟨m', hm, i + 1, ys, its, k, σ6, H7, I7.unpinned, rv, (back I7).1, (back I7).2, w7⟩
      | true =>
        rw [if_pos rfl] at q7 ⊢
        refine thn (he _ _ _ _ _ s7 σ6 H7 _ I7 q7) fun y s8 ⟨v8, H8, I8, r8, q8⟩ => ?_
        obtain ⟨m', hm, w8⟩ := hNN _ _ _ q8
        have pD8 := I8.pin _ (List.mem_append_right _ (List.mem_append_left _ (.head _)))
        have hl := rv.length
        refine wpAny_list_append_plain ⟨k, pD8.1⟩ (fun h9 pl9 sb9 => ?_) (by rw [List.size_toArray]; omega)
        obtain ⟨k9, e9⟩ := pl9
        have e9' : h9.get? s2.heap.objs.size = some { cls := .type "list", data := .seq (List.toArray (its ++ [y])) k9 } := by rw [e9]; simp
        have I8' : Inv (cxBlk X scope cl G.objs.size N fp s2 H2) (pinsAt fp s5.heap) σ6 H8 s8 := I8.pins_of fun p hp => I8.pin p (List.mem_append_right _ (List.mem_append_right _ hp))
        have I9 : Inv (cxBlk X scope cl G.objs.size N fp s2 H2) (pinsAt fp s5.heap) σ6 H8 { s8 with heap := h9 } := I8'.turned (it := s2.heap.objs.size) (t' := s8.toks) (fun b o hb e => sb9.extBut b o hb e) pD8.2.1 pD8.2.2.1 (.inr (Nat.le_refl _))
          (fun x c e z => by
            obtain ⟨vc, oc, hoc, hd⟩ := I8.cell x c e
            rw [z, pD8.1] at hoc
            cases hoc
            cases hd)
          fun p hp z => by
            have hp' : p ∈ pinsAt fp s5.heap := by simpa [cxBlk] using hp
            obtain ⟨q1, q2⟩ := of_pinsAt hp'
            obtain ⟨ob, eb, _⟩ := T.obj _ _ st2 p.1 q1
            exact Nat.lt_irrefl _ (by have := Heap.lt_size eb; rw [z] at this; exact this)
        have hk9 : ∀ b ∈ fp, ∀ o, s8.heap.get? b = some o → h9.get? b = some o := fun b hb o e => sb9.extBut b o (fun z => by
          obtain ⟨ob, eb, _⟩ := T.obj _ _ st2 b hb
          exact Nat.lt_irrefl _ (by have := Heap.lt_size eb; rw [z] at this; exact this)) e
        refine ⟨m', hm, i + 1, ys ++ [v8], its ++ [y], k9, σ6, H8, I9.pins_of fun p hp => ?_, rv.append (.cons r8 .nil), T.keep _ _ _ (back I8).1 hk9, (back I8).2, w8⟩
        have e : p = (s2.heap.objs.size, { cls := .type "list", data := .seq (List.toArray (its ++ [y])) k9 }) := by simpa using hp
        subst e
        exact ⟨e9', pD8.2.1, pD8.2.2.1, pD8.2.2.2.1, fun v z => nomatch z⟩
  exact codeAny_compStart_list (loop _ rfl) (T.self _ 0 _ _ _ (T.keep _ _ _ st2 fun b _ o e => old b o e) (loop _ rfl))
end L2
set_option Elab.async false
set_option linter.all false
set_option maxRecDepth 100000
namespace L2
open PySem PySem.Spec PyProof.Rows
structure Lam (x : Str) (fr : List Str) (params : Arguments) (scope : Scope) : Prop where
  kind : scope.kind = .function
  co : scope.isCoroutine = false
  gen : scope.isGenerator = false
  cell : ∀ y ∈ scope.names, y.2 ≠ .cell
  par : scope.names.lookup x = some .local
  bind : ∀ (nm qual : Str) (body : Expr) (cl : List (Str × Addr)) (pm cdv ct u : Value), bindArgs (PySem.W.kla_fn nm qual params body scope cl pm cdv ct) ⟨[u], []⟩ = pure [(x, u)]
  free : ∀ y ∈ fr, scope.names.lookup y = some .free
def TabE (qual : Str) (c' : Addr) : HO := .ext fun h => h.CodeRec (.ref c') qual
def TabI (P : Addr) (pos : Pos) (qual : Str) (H : Hp) : Prop :=
  H P = some (.tbl #[]) ∨ ∃ c', H P = some (.tbl #[rawInt pos.line, rawInt pos.col, .ref c']) ∧ H c' = some (TabE qual c')
structure Gr (P : Addr) (pos : Pos) (qual : Str) (H H' : Hp) : Prop where
  keep : ∀ b o, H b = some o → b ≠ P → H' b = some o
  tab : TabI P pos qual H'
theorem Gr.refl {P : Addr} {pos : Pos} {qual : Str} {H : Hp} (h : TabI P pos qual H) : Gr P pos qual H H := ⟨fun _ _ e _ => e, h⟩
theorem Gr.trans {P : Addr} {pos : Pos} {qual : Str} {H H1 H2 : Hp} (a : Gr P pos qual H H1) (b : Gr P pos qual H1 H2) : Gr P pos qual H H2 := ⟨fun c o e n => b.keep c o (a.keep c o e n) n, b.tab⟩
theorem TabI.same {P : Addr} {pos : Pos} {qual : Str} {H H' : Hp} (h : TabI P pos qual H) (s : Same H H') : TabI P pos qual H' := by
  rcases h with h | ⟨c', h1, h2⟩
  · exact .inl (s _ _ h)
  · exact .inr ⟨c', s _ _ h1, s _ _ h2⟩
theorem Gr.same {P : Addr} {pos : Pos} {qual : Str} {H H1 H2 : Hp} (a : Gr P pos qual H H1) (b : Same H1 H2) : Gr P pos qual H H2 := ⟨fun c o e n => b c o (a.keep c o e n), a.tab.same b⟩
end L2
set_option Elab.async false
set_option linter.all false
set_option maxRecDepth 100000
set_option maxHeartbeats 4000000
namespace L2
open PySem PySem.Spec PyProof.Rows
section
variable {X : Cx} {pins : List (Addr × Obj)} {σ : St} {H : Hp} {s : Shared} {A : Around} {E : Value → Shared → Prop} {a kS : Addr} {b : Bool} {vs : List Value} {kz : List Int} {keys : Array Value} {e e1 : Nat} {P : PySem.Fin → Shared → Prop}
theorem Inv.track {D : Addr} {o : HO} (I : Inv X pins σ H s) (f : FpOk X pins H D) (hD : X.s₀.heap.objs.size ≤ D) (new : ObjOk X.prog X.w (upd H D o) s.heap D o) : Inv X pins σ (upd H D o) s := by
  have ne : ∀ c u, H c = some u → c ≠ D := fun c u q => ne_of_none q f.1
  refine ⟨I.ok, I.os, I.bare, ⟨I.base.keep, I.base.slot, fun c ob q n hx => ?_, I.base.there, fun c xs q => ?_, fun c ob u q => ?_, fun c ps q => ?_⟩, I.loc, I.cell, ?_, fun x c q => ?_, fun p hp => ?_, fun c u q => ?_, I.len⟩
  · rw [upd_ne (Nat.ne_of_lt (Nat.lt_of_lt_of_le (Heap.lt_size q) hD))]
    exact I.base.free c ob q n hx
  · have z := I.base.tups c xs q
    rw [upd_ne (ne c _ z)]; exact z
  · have z := I.base.frzs c ob u q
    rw [upd_ne (ne c _ z)]; exact z
  · obtain ⟨more, z⟩ := I.base.tbls c ps q
    exact ⟨more, by rw [upd_ne (ne c _ z)]; exact z⟩
  · rw [upd_ne (Ne.symm f.2.1)]; exact I.free
  · rw [upd_ne (f.2.2.2.2.1 x c q)]; exact I.freeC x c q
  · obtain ⟨p1, p2, p3⟩ := I.pin p hp
    exact ⟨p1, by rw [upd_ne (f.2.2.2.2.2 p hp)]; exact p2, p3⟩
  · by_cases hc : c = D
    · subst hc; rw [upd_same] at q; cases q; exact new
    · rw [upd_ne hc] at q
      exact (I.hok c u q).stay (fun _ _ _ r => r) (fun d r => by rw [upd_ne (ne d _ r)]; exact r) fun d xs r => by rw [upd_ne (ne d _ r)]; exact r
end
section
variable {X : Cx} {pins : List (Addr × Obj)} {σ : St} {H : Hp} {s : Shared} {E : Value → Shared → Prop}
end
end L2
set_option Elab.async false
set_option linter.all false
set_option maxRecDepth 100000
set_option maxHeartbeats 4000000
namespace L2
open PySem PySem.Spec PyProof.Rows
end L2
set_option Elab.async false
set_option linter.all false
set_option maxRecDepth 100000
set_option maxHeartbeats 4000000
namespace L2
open PySem PySem.Spec PyProof.Rows
section
variable {X : Cx}
theorem call_isinst : CallR X (.builtin "isinstance") (fun xs H Q => ∃ x n t b, xs = [x, .ty n] ∧ TyOf X.K H x t ∧ PySem.W.kitOne X.K t (.type n) = some b ∧ Q (.bl b) H) := by
  intro pins s σ H xs us Q I r h
  obtain ⟨x, n, t, b, rfl, ty, e, q⟩ := h
  obtain ⟨u, w', rfl, rx, ry⟩ := vals2 r
  cases (show w' = Value.type n from ry)
  exact isinst_ok I rx ty e fun tk => ⟨.bl b, H, I.tok tk, rfl, q⟩
theorem Inv.big {pins : List (Addr × Obj)} {σ : St} {H : Hp} {s : Shared} (I : Inv X pins σ H s) : sysModules < s.heap.objs.size := by
  have h : mainGlobals < s.heap.objs.size := (I.mod.glob.keeps I.bk).lt
  exact Nat.lt_trans (by decide) h
theorem dk_empty {P : Program} {w : World} {H : Hp} (h : Heap) (hb : sysModules < h.objs.size) : ObjOk P w H (h.push { cls := .type "dict", data := .dict #[] }) h.objs.size (.dK []) :=
  ⟨Nat.zero_le _, beq_eq_false_iff_ne.mpr (Ne.symm (Nat.ne_of_lt hb)), [], .nil, Heap.DictOf.new h⟩
def tDNewK : TE := fun _ H Q => ∀ p, H p = none → Q (.ref p) (upd H p (.dK []))
theorem pe_dnewK {pos : Pos} : PE X (.Dict [] [] pos) tDNewK := fun pins s σ H Q I h =>
  wpAny_Dict_empty ⟨.ref s.heap.objs.size, _, I.laid (a := s.heap.objs.size) (o := .dK []) (t' := s.toks) (fun _ _ q => Heap.get?_push_of_some _ q) (Nat.le_refl _) (dk_empty s.heap I.big), rfl, h _ (I.hok.fresh (Nat.le_refl _))⟩
end
end L2
set_option Elab.async false
set_option linter.all false
set_option maxRecDepth 100000
set_option maxHeartbeats 4000000
namespace L2
open PySem PySem.Spec PyProof.Rows
theorem same_add {H : Hp} {d : Addr} {o : HO} (h : H d = Option.none) : Same H (upd H d o) := fun b u e => by rw [upd_ne (ne_of_none e h)]; exact e
theorem le1000 {n : Nat} (h : Nat.ble n 1000 = true) : n ≤ sizeLine := by
  have := Nat.le_of_ble_eq_true h
  rw [sizeLine_eq]; omega
theorem leMil {n : Nat} (h : n ≤ 100000) : n ≤ sizeLine := by rw [sizeLine_eq]; omega
def plainE : Expr → Bool
  | .Starred _ _ => false
  | _ => true
theorem star_cons {e : Expr} {es : List Expr} {env : Env} (h : plainE e = true) : starEach (e :: es) env = (false, eval e env) :: starEach es env := by
  cases e <;> first | rfl | cases h
theorem star_any {env : Env} {pos : Pos} : ∀ {es : List Expr}, es.all plainE = true → (backTo pos (starEach es env)).any (·.1) = false
  | [], _ => rfl
  | e :: es, h => by
    have h1 : plainE e = true ∧ es.all plainE = true := by simpa [List.all_cons, Bool.and_eq_true] using h
    rw [star_cons h1.1]
    have ih := star_any (env := env) (pos := pos) h1.2
    unfold backTo at ih ⊢
    rw [List.map_cons, List.any_cons, ih]
    rfl
theorem pa_c {X : Cx} {e : Expr} {es : List Expr} {te : TE} {t : TA} (ha : PE X e te) (hr : PA X es t) (hs : plainE e = true := by rfl) : PA X (e :: es) (tCons te t) := pa_cons ha hr (star_cons hs)
structure FnE (P : Program) (w : World) (K : PySem.W.Frag) (mg : Str → Option Value) (base : Heap) (x : Str) (ps : List Str) (k : Nat) (sp : Sp) : Prop where
  ex : ∃ f fd, FnOk P w K mg base CX0 k f fd ps sp ∧ mg x = some (.ref f) ∧ PySem.W.keepIn K (.ref f) = true ∧ Binds K fd ps []
theorem FnE.mono {P : Program} {w : World} {K : PySem.W.Frag} {mg : Str → Option Value} {base : Heap} {x : Str} {ps : List Str} {j k : Nat} {sp : Sp} (F : FnE P w K mg base x ps j sp) (h : j ≤ k) : FnE P w K mg base x ps k sp :=
  let ⟨f, fd, a, b⟩ := F.ex; ⟨f, fd, a.mono h, b⟩
theorem pe_fn {X : Cx} {x : Str} {ps : List Str} {k : Nat} {sp : Sp} {e : Expr} {es : List Expr} {t : TA} {p pos : Pos} (F : FnE X.prog X.w X.K X.mg X.base x ps k sp) (hr : Room k X.A) (ha : PA X (e :: es) t) (hg : Gl X x := by rfl)
    (hdb : (x == ("__debug__" : Str)) = false := by decide) (he : starEach (e :: es) X.env = (false, eval e X.env) :: starEach es X.env := by rfl) (hpl : (backTo pos (starEach es X.env)).any (·.1) = false := by rfl) :
    PE X (.Call (.Name x p) (e :: es) [] pos) (tCall sp [] E0 t) :=
  let ⟨_, _, a, b, c, d⟩ := F.ex; pe_call a hr hg b c d .nil pass0 ha hdb he hpl
theorem pe_fc {X : Cx} {x : Str} {ps : List Str} {k : Nat} {sp : Sp} {e : Expr} {es : List Expr} {t : TA} {p pos : Pos} (F : FnE X.prog X.w X.K X.mg X.base x ps k sp) (hr : Room k X.A) (ha : PA X (e :: es) t) (hg : Gl X x := by rfl)
    (hdb : (x == ("__debug__" : Str)) = false := by decide) (he : plainE e = true := by rfl) (hpl : es.all plainE = true := by rfl) : PE X (.Call (.Name x p) (e :: es) [] pos) (tCall sp [] E0 t) :=
  pe_fn F hr ha hg hdb (star_cons he) (star_any hpl)
def tTupS (t : TA) : TE := fun σ H Q => t σ H fun xs H1 => Nat.ble xs.length 1000 = true ∧ ∀ p H', Same H1 H' → H' p = some (.tup xs) → Q (.ref p) H'
def tLstS (t : TA) : TE := fun σ H Q => t σ H fun xs H1 => Nat.ble xs.length 1000 = true ∧ ∀ p H', Same H1 H' → H' p = some (.lst xs) → Q (.ref p) H'
section
variable {X : Cx} {e : Expr} {es : List Expr} {te : TE} {t : TA} {pos : Pos}
theorem OpR.weak {f : Value → Value → Sem Value} {r r' : R2} (h : OpR X f r) (k : ∀ x y H Q, r' x y H Q → r x y H Q) : OpR X f r' := fun pins s σ H x y v u Q I rx ry q => h pins s σ H x y v u Q I rx ry (k _ _ _ _ q)
theorem CallR.weak {f : Value} {r r' : List V → Hp → VK → Prop} (h : CallR X f r) (k : ∀ xs H Q, r' xs H Q → r xs H Q) : CallR X f r' := fun pins s σ H xs us Q I r q => h pins s σ H xs us Q I r (k _ _ _ q)
theorem pe_tupS {x1} (h : PA X es t) : PE X (.Tuple es x1 pos) (tTupS t) := by
  intro pins s σ H Q I hq
  refine wpAny_Tuple_spliced (thn (h pos pins s σ H _ I hq) fun us s1 ⟨xs, H1, I1, r, z, q⟩ => ⟨by rw [← r.length]; exact le1000 z, ?_⟩)
  have hf : H1 s1.heap.objs.size = none := I1.hok.fresh (Nat.le_refl _)
  refine ⟨.ref s1.heap.objs.size, upd H1 s1.heap.objs.size (.tup xs), I1.laid (t' := s1.toks) (fun b u e => Heap.get?_push_of_some _ e) (Nat.le_refl _) ?_, rfl, q _ _ (same_add hf) upd_same⟩
  exact ⟨le1000 z, us, r, ⟨_, Heap.get?_push_size _ rfl, rfl, _, rfl⟩⟩
theorem pe_lstS (h : PA X es t) : PE X (.List es pos) (tLstS t) := by
  intro pins s σ H Q I hq
  refine wpAny_List_spliced (thn (h pos pins s σ H _ I hq) fun us s1 ⟨xs, H1, I1, r, z, q⟩ => ⟨by rw [← r.length]; exact le1000 z, ?_⟩)
  have hf : H1 s1.heap.objs.size = none := I1.hok.fresh (Nat.le_refl _)
  refine ⟨.ref s1.heap.objs.size, upd H1 s1.heap.objs.size (.lst xs), I1.laid (t' := s1.toks) (fun b u e => Heap.get?_push_of_some _ e) (Nat.le_refl _) ?_, rfl, q _ _ (same_add hf) upd_same⟩
  exact ⟨le1000 z, us, 0, r, Heap.get?_push_size _ rfl⟩
def rCatLS : R2 := fun x y H Q => ∃ a b xs ys, x = .ref a ∧ y = .ref b ∧ H a = some (.lst xs) ∧ H b = some (.lst ys) ∧ xs.length + ys.length ≤ 100000 ∧ ∀ p H', Same H H' → H' p = some (.lst (xs ++ ys)) → Q (.ref p) H'
theorem op_catLS : OpR X (binaryOp .Add) rCatLS := op_cat.weak fun x y H Q ⟨a, b, xs, ys, e1, e2, h1, h2, z, q⟩ => ⟨a, b, xs, ys, e1, e2, h1, h2, leMil z, fun p hp => q p _ (same_add hp) upd_same⟩
theorem call_list_ofS : CallR X (.type "list") (fun xs H Q => ∃ p ys, xs = [.ref p] ∧ (SqL X.K H p ys ∨ SqT X.K H p ys) ∧ ∀ l H', Same H H' → H' l = some (.lst ys) → Q (.ref l) H') :=
  call_list_of.weak fun xs H Q ⟨p, ys, e, h, q⟩ => ⟨p, ys, e, h, fun l hl => q l _ (same_add hl) upd_same⟩
theorem call_tuple_ofS : CallR X (.type "tuple") (fun xs H Q => ∃ p ys, xs = [.ref p] ∧ (H p = some (.lst ys) ∨ H p = some (.tup ys)) ∧ ∀ l H', Same H H' → H' l = some (.tup ys) → Q (.ref l) H') :=
  call_tuple_of.weak fun xs H Q ⟨p, ys, e, h, q⟩ => ⟨p, ys, e, by
    rcases h with h | h
    · exact .inl ⟨SqL.of h, fun l hl => q l _ (same_add hl) upd_same⟩
    · exact .inr ⟨SqT.of h, q p H (Same.refl H) h⟩⟩
end
def MonoE (t : TE) : Prop := ∀ σ H (Q Q' : VK), (∀ v H', Q v H' → Q' v H') → t σ H Q → t σ H Q'
theorem mono_var (i : Nat) : MonoE (tVar i) := fun σ H Q Q' k ⟨v, e, q⟩ => ⟨v, e, k _ _ q⟩
end L2
set_option Elab.async false
set_option linter.all false
set_option maxRecDepth 100000
set_option maxHeartbeats 4000000
namespace L2
open PySem PySem.Spec PyProof.Rows
def MonoA (t : TA) : Prop := ∀ σ H (Q Q' : List V → Hp → Prop), (∀ v H', Q v H' → Q' v H') → t σ H Q → t σ H Q'
theorem monoA_nil : MonoA tNil := fun σ H Q Q' k q => k _ _ q
theorem monoA_cons {te : TE} {tr : TA} (ha : MonoE te) (hr : MonoA tr) : MonoA (tCons te tr) := fun σ H Q Q' k q => ha σ H _ _ (fun x H1 q => hr σ H1 _ _ (fun xs H2 q => k _ _ q) q) q
theorem lc_range {lo : Int} {n : Nat} {g : TG} {tt : TT} {te : TE} {σ : St} {H : Hp} {Q : VK} (Pv : Nat → List V → St → Hp → Prop) (hz : n ≤ sizeLine) (h0 : Pv 0 [] σ H) (hl : ∀ i ys σ H, i ≤ n → Pv i ys σ H → ys.length ≤ i)
    (hs : ∀ i ys σ H, i < n → Pv i ys σ H → g (.int (lo + i)) σ H fun σ3 H3 => tt σ3 H3 fun b H4 => if b = true then te σ3 H4 fun v H5 => Pv (i + 1) (ys ++ [v]) σ3 H5 else Pv (i + 1) ys σ3 H4)
    (hd : ∀ ys σ H, Pv n ys σ H → ∀ p, H p = none → Q (.ref p) (upd H p (.lst ys))) :
    ∃ W : Nat → Nat → List V → St → Hp → Prop, (∃ m, W 0 m [] σ H) ∧ ∀ i m ys σ' H', W i m ys σ' H' →
      ((Itr lo n).stop i H' ∧ ys.length ≤ sizeLine ∧ ∀ p, H' p = none → Q (.ref p) (upd H' p (.lst ys))) ∨
      ((Itr lo n).go i H' ∧ ys.length < sizeLine ∧ ∃ N : List V → St → Hp → Prop, (∀ zs σ2 H2, N zs σ2 H2 → ∃ m', m' < m ∧ W (i + 1) m' zs σ2 H2) ∧ ∀ x H2, (Itr lo n).yld i H' x H2 → g x σ' H2 fun σ3 H3 => tt σ3 H3 fun b H4 =>
        if b = true then te σ3 H4 fun v H5 => N (ys ++ [v]) σ3 H5 else N ys σ3 H4) := by
  refine ⟨fun i m ys σ H => m = n - i ∧ i ≤ n ∧ Pv i ys σ H, ⟨n, by simp, Nat.zero_le _, h0⟩, ?_⟩
  rintro i m ys σ H ⟨rfl, hi, p⟩
  have ql := hl i ys σ H hi p
  by_cases hlt : i < n
  · refine .inr ⟨hlt, by omega, Pv (i + 1), fun zs σ' H' p' => ⟨n - (i + 1), by omega, rfl, hlt, p'⟩, fun x H' y => ?_⟩
    obtain ⟨e, y⟩ := y
    subst e
    subst y
    exact hs i ys σ _ hlt p
  · have e : i = n := by omega
    subst e
    exact .inl ⟨Nat.le_refl _, by omega, hd ys σ H p⟩
def tLCR (bs : List (Option Nat)) (ta : TA) (g : TG) (tt : TT) (te : TE) : TE := fun σ H Q => ta σ H fun vs H1 => ∃ n : Nat, vs = [.int (n : Int)] ∧ n ≤ 100000 ∧ ∃ Pv : Nat → List V → St → Hp → Prop, Pv 0 [] (bst bs σ) H1 ∧
  (∀ i ys σ H, i ≤ n → Pv i ys σ H → ys.length ≤ i) ∧
  (∀ i ys σ H, i < n → Pv i ys σ H → g (.int (0 + i)) σ H fun σ3 H3 => tt σ3 H3 fun b H4 => if b = true then te σ3 H4 fun v H5 => Pv (i + 1) (ys ++ [v]) σ3 H5 else Pv (i + 1) ys σ3 H4) ∧
  ∀ ys σ H, Pv n ys σ H → ∀ p H', Same H H' → H' p = some (.lst ys) → Q (.ref p) H'
theorem pe_lcR {X : Cx} {scope : Scope} {cl : List (Str × Addr)} {N : List Str} {bs : List (Option Nat)} {tg a elt : Expr} {ifs : List Expr} {p pos' pos : Pos} {ta : TA} {g : TG} {tt : TT} {te : TE} (B : Blk X scope cl N bs) (hc : X.calm = true)
    (hgl : Gl X "range") (hmr : X.mg "range" = none) (ha : PA X [a] ta) (hm : MonoA ta) (hpl : plainE a = true) (hg : ∀ C fp s H, PG (cxBlk X scope cl C N fp s H) tg g) (ht : ∀ C fp s H, PTs (cxBlk X scope cl C N fp s H) ifs tt) (he : ∀ C fp s H, PE (cxBlk X scope cl C N fp s H) elt te)
    (hs : ∀ x, foldedSetIterable (.Call (.Name "range" p) [a] [] pos') X.env x = pure x := by intro _; rfl) : PE X (.ListComp elt [⟨tg, .Call (.Name "range" p) [a] [] pos', ifs, 0⟩] scope pos) (tLCR bs ta g tt te) := by
  intro pins s σ H Q I h
  refine @pe_lc X scope cl N bs tg _ elt ifs pos (iRng1 ta) g tt te B hc (@pi_range1 X tg a ta p pos' hgl hmr ha (star_cons hpl)) hg ht he hs pins s σ H Q I ?_
  refine hm σ H _ _ (fun vs H1 h => ?_) h
  obtain ⟨n, e, hz, Pv, p0, pl, ps, pd⟩ := h
  refine ⟨(n : Int), e, by omega, by omega, ?_⟩
  rw [Int.toNat_natCast]
  exact lc_range (Q := Q) Pv (leMil hz) p0 pl ps fun ys σ H hp p hpn => pd ys σ H hp p _ (same_add hpn) upd_same
theorem lc_list {K : PySem.W.Frag} {a : Addr} {xs : List V} {g : TG} {tt : TT} {te : TE} {σ : St} {H : Hp} {Q : VK} (Pv : Nat → List V → St → Hp → Prop) (hz : xs.length ≤ sizeLine) (h0 : Pv 0 [] σ H) (hl : ∀ i ys σ H, i ≤ xs.length → Pv i ys σ H → SqL K H a xs ∧ ys.length ≤ i)
    (hs : ∀ i x ys σ H, xs[i]? = some x → Pv i ys σ H → g x σ H fun σ3 H3 => tt σ3 H3 fun b H4 => if b = true then te σ3 H4 fun v H5 => Pv (i + 1) (ys ++ [v]) σ3 H5 else Pv (i + 1) ys σ3 H4)
    (hd : ∀ ys σ H, Pv xs.length ys σ H → ∀ p, H p = none → Q (.ref p) (upd H p (.lst ys))) :
    ∃ W : Nat → Nat → List V → St → Hp → Prop, (∃ m, W 0 m [] σ H) ∧ ∀ i m ys σ' H', W i m ys σ' H' →
      ((Itl K a).stop i H' ∧ ys.length ≤ sizeLine ∧ ∀ p, H' p = none → Q (.ref p) (upd H' p (.lst ys))) ∨
      ((Itl K a).go i H' ∧ ys.length < sizeLine ∧ ∃ N : List V → St → Hp → Prop, (∀ zs σ2 H2, N zs σ2 H2 → ∃ m', m' < m ∧ W (i + 1) m' zs σ2 H2) ∧ ∀ x H2, (Itl K a).yld i H' x H2 → g x σ' H2 fun σ3 H3 => tt σ3 H3 fun b H4 =>
        if b = true then te σ3 H4 fun v H5 => N (ys ++ [v]) σ3 H5 else N ys σ3 H4) := by
  refine ⟨fun i m ys σ H => m = xs.length - i ∧ i ≤ xs.length ∧ Pv i ys σ H, ⟨xs.length, by simp, Nat.zero_le _, h0⟩, ?_⟩
  rintro i m ys σ H ⟨rfl, hi, p⟩
  obtain ⟨q, ql⟩ := hl i ys σ H hi p
  by_cases hlt : i < xs.length
  · refine .inr ⟨⟨xs, xs[i], q, by simp [hlt]⟩, by omega, Pv (i + 1), fun zs σ' H' p' => ⟨xs.length - (i + 1), by omega, rfl, hlt, p'⟩, fun x H' y => ?_⟩
    obtain ⟨e, y⟩ := y
    subst e
    exact hs i x ys σ _ (y xs q) p
  · have e : i = xs.length := by omega
    subst e
    exact .inl ⟨⟨xs, q, Nat.le_refl _⟩, by omega, hd ys σ H p⟩
def tLCL (K : PySem.W.Frag) (bs : List (Option Nat)) (tl : TE) (g : TG) (tt : TT) (te : TE) : TE := fun σ H Q => tl σ H fun x H1 => ∃ a xs, x = .ref a ∧ SqL K H1 a xs ∧ xs.length ≤ 100000 ∧ ∃ Pv : Nat → List V → St → Hp → Prop, Pv 0 [] (bst bs σ) H1 ∧
  (∀ i ys σ H, i ≤ xs.length → Pv i ys σ H → SqL K H a xs ∧ ys.length ≤ i) ∧
  (∀ i x ys σ H, xs[i]? = some x → Pv i ys σ H → g x σ H fun σ3 H3 => tt σ3 H3 fun b H4 => if b = true then te σ3 H4 fun v H5 => Pv (i + 1) (ys ++ [v]) σ3 H5 else Pv (i + 1) ys σ3 H4) ∧
  ∀ ys σ H, Pv xs.length ys σ H → ∀ p H', Same H H' → H' p = some (.lst ys) → Q (.ref p) H'
theorem pe_lcL {X : Cx} {scope : Scope} {cl : List (Str × Addr)} {N : List Str} {bs : List (Option Nat)} {tg iter elt : Expr} {ifs : List Expr} {pos : Pos} {tl : TE} {g : TG} {tt : TT} {te : TE} (B : Blk X scope cl N bs) (hc : X.calm = true)
    (hl : PE X iter tl) (hm : MonoE tl) (hg : ∀ C fp s H, PG (cxBlk X scope cl C N fp s H) tg g) (ht : ∀ C fp s H, PTs (cxBlk X scope cl C N fp s H) ifs tt) (he : ∀ C fp s H, PE (cxBlk X scope cl C N fp s H) elt te)
    (hs : ∀ x, foldedSetIterable iter X.env x = pure x := by intro _; rfl) : PE X (.ListComp elt [⟨tg, iter, ifs, 0⟩] scope pos) (tLCL X.K bs tl g tt te) := by
  intro pins s σ H Q I h
  refine @pe_lc X scope cl N bs tg iter elt ifs pos (iList X.K tl) g tt te B hc (@pi_list X _ _ _ hl) hg ht he hs pins s σ H Q I ?_
  refine hm σ H _ _ (fun x H1 h => ?_) h
  obtain ⟨a, xs, e, hS, hz, Pv, p0, pl, ps, pd⟩ := h
  exact ⟨a, e, ⟨xs, hS⟩, lc_list (Q := Q) Pv (leMil hz) p0 pl ps fun ys σ H hp p hpn => pd ys σ H hp p _ (same_add hpn) upd_same⟩
section
variable {X : Cx}
end
end L2
set_option Elab.async false
set_option linter.all false
set_option maxRecDepth 100000
set_option maxHeartbeats 4000000
namespace PySem
open Sem (wp)
open AutoSeq1 (wpAny_loadPart')
section
variable {prog : Program} {w : World} {A : Around} {E : Value → Shared → Prop} {s : Shared}
theorem nextOf_tuple_item {it l : Addr} {i : Nat} {items} {x : Value} {Q : Value → Shared → Prop} (hit : s.heap.IsTupleIter it l i)
    (hl : s.heap.IsTuple l items) (hx : items[i]? = some x)
    (hQ : ∀ h', h'.IsTupleIter it l (i + 1) → Heap.SameBut it s.heap h' → Q x { s with heap := h' }) :
    wpAny (model prog w) A (Builtin.SmallTypes.nextOf (.ref it)) Q E s := by
  obtain ⟨o, ho, hc, hd⟩ := id hit
  obtain ⟨ol, hol, _, nl, hdl⟩ := hl
  unfold Builtin.SmallTypes.nextOf
  refine wpAny_bind (wpAny_callSpecial?_slot (name := Str.ofString "__next__") hit.typeIs F.slot_tuple_iterator_next
    (wpAny_call_entry F.slot_tuple_iterator_next hit.typeIs F.entry_tuple_iterator_next ?_ (F.args_tuple_iterator_next_1 _)))
  show wpAny _ _ (field (.ref it) 0 >>= _) _ _ s
  refine wpAny_bind (wpAny_field ho hd (x := .ref l) rfl ?_)
  show wpAny _ _ (if (Value.ref l == Value.none) = true then _ else _) _ _ s
  rw [if_neg (show ¬ ((Value.ref l == Value.none) = true) from Bool.false_ne_true)]
  show wpAny _ _ (field (.ref it) 1 >>= _) _ _ s
  refine wpAny_bind (wpAny_field ho hd (x := .int i 0) rfl ?_)
  show wpAny _ _ (seqItems? (.ref l) >>= _) _ _ s
  refine wpAny_bind (wpAny_seqItems hol hdl ?_)
  simp only [Int.toNat_natCast, hx]
  refine wpAny_bind (wpAny_setField ho hd (by simp) (wpAny_pure ⟨x, rfl, wpAny_pure (hQ _ ?_ (Heap.SameBut.update ..))⟩))
  exact ⟨_, Heap.get?_update_self _ ho (Obj.isFreed_of_fields (Obj.data_mapFields hd _)), (Obj.cls_mapFields ..).trans hc, by
    rw [Obj.data_mapFields hd]; simp [rawInt]⟩
theorem nextOf_tuple_end {it l : Addr} {i : Nat} {items} {Q : Value → Shared → Prop} (hh : A.handled = none)
    (hit : s.heap.IsTupleIter it l i) (hl : s.heap.IsTuple l items) (hx : items[i]? = none)
    (hE : ∀ h' e, Heap.ExtBut it s.heap h' → (∃ o, h'.get? e = some o ∧ o.cls = .type "StopIteration") → E (.ref e) { s with heap := h' }) :
    wpAny (model prog w) A (Builtin.SmallTypes.nextOf (.ref it)) Q E s := by
  obtain ⟨o, ho, hc, hd⟩ := id hit
  obtain ⟨ol, hol, _, nl, hdl⟩ := hl
  unfold Builtin.SmallTypes.nextOf
  refine wpAny_bind (wpAny_callSpecial?_slot (name := Str.ofString "__next__") hit.typeIs F.slot_tuple_iterator_next
    (wpAny_call_entry F.slot_tuple_iterator_next hit.typeIs F.entry_tuple_iterator_next ?_ (F.args_tuple_iterator_next_1 _)))
  show wpAny _ _ (field (.ref it) 0 >>= _) _ _ s
  refine wpAny_bind (wpAny_field ho hd (x := .ref l) rfl ?_)
  show wpAny _ _ (if (Value.ref l == Value.none) = true then _ else _) _ _ s
  rw [if_neg (show ¬ ((Value.ref l == Value.none) = true) from Bool.false_ne_true)]
  show wpAny _ _ (field (.ref it) 1 >>= _) _ _ s
  refine wpAny_bind (wpAny_field ho hd (x := .int i 0) rfl ?_)
  show wpAny _ _ (seqItems? (.ref l) >>= _) _ _ s
  refine wpAny_bind (wpAny_seqItems hol hdl ?_)
  simp only [Int.toNat_natCast, hx]
  refine wpAny_bind (wpAny_rule (wpAny_bind (wpAny_setField ho hd (by simp) ?_)))
  show wpAny _ _ (newExc (.type "StopIteration") [] >>= _) _ _ _
  refine wpAny_bind ?_
  simp only [newExc, newTuple]
  refine wpAny_bind (wpAny_newObj_type ?_ (by size_fits))
  refine wpAny_bind (m := firstArgMember _ _) (wpAny_of_eq (a := Value.none) (by first | rfl | (simp only [firstArgMember]; rfl)) ?_)
  refine wpAny_newObj_type ?_ (by size_fits)
  simp only [raiseNew]
  refine wpAny_bind (wpAny_handled ?_)
  first | rw [show A.in1.handled = none from hh] | rw [hh]
  refine wpAny_bind (wpAny_pure (wpAny_throw ?_))
  exact hE _ _ (((Heap.SameBut.update ..).extBut.push _).push _) ⟨_, Heap.get?_push_size _ rfl, rfl⟩
end
theorem Draws.tupleD {prog : Program} {w : World} {A : Around} (hh : A.handled = none) (it l : Addr) (hne : l ≠ it) (items : Array Value) :
    Draws prog w A it [it, l] items.size (fun i v => items[i]? = some v) (fun i h => h.IsTupleIter it l i ∧ h.IsTuple l items) where
  live := fun _ _ st => let ⟨o, ho, _⟩ := st.1; ⟨o, ho⟩
  frame := fun _ _ _ st hk => ⟨let ⟨o, ho, r⟩ := st.1; ⟨o, hk it (by simp) o ho, r⟩, let ⟨o, ho, r⟩ := st.2; ⟨o, hk l (by simp) o ho, r⟩⟩
  item := fun i s Q E hi st hQ => by
    refine nextOf_tuple_item st.1 st.2 (x := items[i]) (by simp [hi]) fun h' hit' hs' => ?_
    exact hQ _ h' s.toks (by simp [hi]) ⟨hit', st.2.extBut hs'.extBut hne⟩ hs'
  done := fun s Q E st hE => nextOf_tuple_end hh st.1 st.2 (by simp) hE
theorem meets_enumerate_newT (l : Addr) (items : Array Value) (n : Nat) (dct : Option Addr) (sl : Array (Option Value)) :
    Meets (Builtin.«enumerate.__new__» ⟨[.type "enumerate", .ref l], []⟩) (fun _ R s => s.heap.get? l = some { cls := .type "tuple", dict := dct, data := .seq items n, slots := sl } ∧
      R (.ok (.ret (.ref (s.heap.push { cls := .type "tuple_iterator", data := .fields #[.ref l, .int 0 0] }).objs.size)))
        { s with heap := (s.heap.push { cls := .type "tuple_iterator", data := .fields #[.ref l, .int 0 0] }).push { cls := .type "enumerate", data := .fields #[.none, .bool false, .ref s.heap.objs.size, rawInt 0, .none, .none] } }) :=
  .of_wp fun prog w A R s h => by
    obtain ⟨hp, g, d, tk, os⟩ := s; obtain ⟨hl, h⟩ := h
    have hsub := sub_enumerate
    have hL : Heap.IsTuple (Shared.heap ⟨hp, g, d, tk, os⟩) l items := ⟨_, hl, rfl, n, rfl⟩
    wp_walk using wpAny_loadPart' hl
    refine wpAny_stack_any fun st => wpAny_pure ?_
    split
    · rename_i c _ _ _ _ _
      cases (c == Value.type "enumerate")
      · wp_walk using wpAny_loadPart' hl, wpAny_pyIter_tuple hL
        exact ⟨_, rfl, h⟩
      · wp_walk using wpAny_loadPart' hl, wpAny_pyIter_tuple hL
        exact ⟨_, rfl, h⟩
    · wp_walk using wpAny_loadPart' hl, wpAny_pyIter_tuple hL
      exact ⟨_, rfl, h⟩
section
variable {prog : Program} {w : World} {A : Around} {E : Value → Shared → Prop} {s : Shared}
theorem call_enumerate_tuple {l : Addr} {items : Array Value} {Q : Value → Shared → Prop} (hL : s.heap.IsTuple l items)
    (h : ∀ h', IsEnum h' (s.heap.objs.size + 1) s.heap.objs.size 0 .none → h'.IsTupleIter s.heap.objs.size l 0 → h'.objs.size = s.heap.objs.size + 2 →
      (∀ b o, s.heap.get? b = some o → h'.get? b = some o) → Q (.ref (s.heap.objs.size + 1)) { s with heap := h' }) :
    wpAny (model prog w) A (call (.type "enumerate") [.ref l]) Q E s := by
  obtain ⟨⟨c, dct, dt, sl⟩, hl, hc, n, hd⟩ := hL
  replace hc : c = .type "tuple" := hc
  replace hd : dt = .seq items n := hd
  subst hc hd
  refine callType_new F.called_enumerate (by decide) (F.typeCall_enumerate_1 _) (F.newCall_enumerate_1 _) (fun obj => F.args_object_init_2 obj _) F.entry_enumerate_new
    (meets_enumerate_newT l items n dct sl) ⟨hl, ?_⟩
  have hz : (s.heap.push { cls := .type "tuple_iterator", data := .fields #[.ref l, .int 0 0] }).objs.size = s.heap.objs.size + 1 := Heap.size_push ..
  show _ ∧ _
  rw [hz]
  have he : IsEnum ((s.heap.push { cls := .type "tuple_iterator", data := .fields #[.ref l, .int 0 0] }).push
      { cls := .type "enumerate", data := .fields #[.none, .bool false, .ref s.heap.objs.size, rawInt 0, .none, .none] }) (s.heap.objs.size + 1) s.heap.objs.size 0 .none := by
    have := Heap.get?_push_size (s.heap.push { cls := .type "tuple_iterator", data := .fields #[.ref l, .int 0 0] })
      (o := { cls := .type "enumerate", data := .fields #[.none, .bool false, .ref s.heap.objs.size, rawInt 0, .none, .none] }) rfl
    rw [hz] at this; exact this
  refine ⟨⟨_, he, rfl⟩, h _ he ⟨_, Heap.get?_push_of_some _ (Heap.get?_push_size _ rfl), rfl, rfl⟩ (by rw [Heap.size_push, hz]) fun b o x => Heap.get?_push_of_some _ (Heap.get?_push_of_some _ x)⟩
end
end PySem
namespace L2
open PySem PySem.Spec PyProof.Rows
theorem Inv.turnedL {X : Cx} {pins : List (Addr × Obj)} {σ : St} {H : Hp} {s : Shared} {h' : Heap} {t' : Nat} {ch : List Addr} (I : Inv X pins σ H s) (k : ∀ b o, b ∉ ch → s.heap.get? b = some o → h'.get? b = some o) (hf : ∀ b ∈ ch, FpOk X pins H b) : Inv X pins σ H { s with heap := h', toks := t' } := by
  have nit : ∀ b u, H b = some u → b ∉ ch := fun b u e z => by rw [(hf b z).1] at e; cases e
  refine I.step (g' := s.gens) (d' := s.drawn) (ch := ch) (fun b hb => ⟨(hf b hb).2.2.2.1, (hf b hb).2.1, (hf b hb).2.2.2.2.1, (hf b hb).2.2.2.2.2⟩) (fun b o _ _ hc e _ => k b o hc e) (fun b o _ _ hc e _ => ⟨o.slots, k b o hc e⟩) (fun _ _ _ _ n => n)
    (fun b o hc e => ⟨o, k b o hc e⟩) (fun _ _ e => e) (fun _ _ _ e => e) (fun b ps e => ⟨#[], by rw [e]; simp⟩) (fun m hm => ?_) (fun b u e => ?_) I.bare
  · obtain ⟨o, es, ep, ho, r⟩ := hm
    exact ⟨o, es, ep, k _ o (fun z => (hf _ z).2.1 rfl) ho, r⟩
  · refine (I.hok b u e).stay (fun c v hc q => k c v ?_ q) (fun _ q => q) fun _ _ q => q
    rcases hc with z | z
    · rw [z]; exact nit b u e
    · exact nit c _ z
def Ite (K : PySem.W.Frag) (a : Addr) : It :=
  ⟨fun i H => ∃ xs x, SqT K H a xs ∧ xs[i]? = some x, fun i H x H' => ∃ T y, x = .ref T ∧ H T = none ∧ H' = upd H T (.tup [.int i, y]) ∧ ∀ xs, SqT K H a xs → xs[i]? = some y, fun i H => ∃ xs, SqT K H a xs ∧ xs.length ≤ i⟩
theorem turn_enum {P : Program} {w : World} {K : PySem.W.Frag} {elts : List Expr} {x1 : Nat} {pos : Pos} (a e it : Addr) (hne : e ≠ it) :
    Turn P w K (.Tuple elts x1 pos) (Ite K a) [e, it] e (fun i h => (∃ old, IsEnum h e it i old) ∧ h.IsTupleIter it a i) where
  mem := by simp
  obj := fun i h st b hb => by
    obtain ⟨⟨old, he⟩, o, ho, hc, hd⟩ := st
    rcases List.mem_cons.mp hb with rfl | hb
    · exact ⟨_, he, fun v z => nomatch z⟩
    · rw [List.mem_singleton.mp hb]
      exact ⟨o, ho, fun v z => by rw [hd] at z; cases z⟩
  keep := fun i h h' st k => by
    obtain ⟨⟨old, he⟩, o, ho, r⟩ := st
    exact ⟨⟨old, k e (by simp) _ he⟩, o, k it (by simp) o ho, r⟩
  item := by
    intro X hP hw hK hc i pins s σ H E I hf st hg
    subst hP hw hK
    obtain ⟨xs, x, hq, hx⟩ := hg
    obtain ⟨its, rv, p, hz⟩ := I.tuple hq
    obtain ⟨u, hu, ru⟩ := rv.get hx
    obtain ⟨⟨old, he⟩, hit⟩ := st
    have fe := hf e (by simp)
    have fi := hf it (by simp)
    have ht : s.heap.IsTuple a its.toArray := p
    have hlt : i < its.toArray.size := by
      rw [List.size_toArray]
      exact (List.getElem?_eq_some_iff.mp hu).1
    have hai : a ≠ it := fun z => by
      obtain ⟨o, ho, h1, _⟩ := ht
      obtain ⟨o', ho', h2, _⟩ := hit
      rw [z, ho'] at ho
      cases ho
      rw [h2] at h1
      exact absurd (Value.type.inj h1) (by decide)
    have hae : e ≠ a := fun z => by
      obtain ⟨o, ho, h1, _⟩ := ht
      have he' : s.heap.get? e = _ := he
      rw [z, ho] at he'
      cases he'
      exact absurd (Value.type.inj h1) (by decide)
    refine wpAny_pyNext_enum_itemD (Draws.tupleD (by simp [I.ok.hd hc]) it a hai its.toArray) he ⟨hit, ht⟩ hlt hne (by simp only [List.mem_cons, List.not_mem_nil, or_false, not_or]; exact ⟨hne, hae⟩) fun x' h' tk hP ho hs' hT hsz hk => ?_
    have ex : x' = u := by
      rw [List.getElem?_toArray] at hP
      rw [hu] at hP
      exact (Option.some.inj hP).symm
    subst ex
    have I1 : Inv X pins σ H { s with heap := h', toks := tk + 1 } := I.turnedL (ch := [e, it]) (fun b o hb q => hk b o (fun z => hb (by simp [z])) (fun z => hb (by simp [z])) q) fun b hb => hf b hb
    refine ⟨_, rfl, wpAny_letOwnedTupleGo_enum (s := { s with heap := h', toks := tk + 1 }) ho fun h2 he2 sb => ?_⟩
    have I2 : Inv X pins σ H { s with heap := h2, toks := tk + 1 } := Inv.turnedL (s := { s with heap := h', toks := tk + 1 }) (t' := tk + 1) (ch := [e]) I1 (fun b o hb q => (sb.2 b (fun z => hb (by simp [z]))).trans q) fun b hb => by rw [List.mem_singleton.mp hb]; exact fe
    have hn : H s.heap.objs.size = none := I.hok.fresh (Nat.le_refl _)
    have fT : FpOk X pins H s.heap.objs.size := I.fpOk (Nat.le_refl _) hn
    have heT : s.heap.objs.size ≠ e := Nat.ne_of_gt (Heap.lt_size he)
    have hT2 : h2.get? s.heap.objs.size = some { cls := .type "tuple", data := .seq #[.int i tk, x'] } := (sb.2 _ heT).trans hT
    refine ⟨.ref s.heap.objs.size, upd H s.heap.objs.size (.tup [.int i, x]), I2.track fT I.sz ?_, rfl, ⟨_, x, rfl, hn, rfl, fun ys hy => by rw [I.tuple_inj hy hq]; exact hx⟩, ⟨⟨x', by simpa using he2⟩, ?_⟩, fun b hb => ?_⟩
    · exact ⟨le1000 rfl, [.int i tk, x'], .cons ⟨tk, rfl⟩ (.cons ru .nil), ⟨_, hT2, rfl, _, rfl⟩⟩
    · obtain ⟨o, ho', r⟩ := hs'.1
      exact ⟨o, (sb.2 _ (Ne.symm hne)).trans ho', r⟩
    · rcases List.mem_cons.mp hb with rfl | hb
      · rw [upd_ne (Ne.symm heT)]; exact fe.1
      · rw [List.mem_singleton.mp hb, upd_ne]
        · exact fi.1
        · obtain ⟨o, ho', _⟩ := hit
          exact Nat.ne_of_lt (Heap.lt_size ho')
  done := by
    intro X hP hw hK hc i pins s σ H E I hf st hg
    subst hP hw hK
    obtain ⟨xs, hq, hx⟩ := hg
    obtain ⟨its, rv, p, hz⟩ := I.tuple hq
    obtain ⟨⟨old, he⟩, hit⟩ := st
    have ht : s.heap.IsTuple a its.toArray := p
    have hl := rv.length
    have hT : s.TypeIs (.ref e) "enumerate" := ⟨_, he, rfl⟩
    unfold pyNext
    refine wpAny_bind (wpAny_attempt (wpAny_callSpecial?_slot (name := Str.ofString "__next__") hT F.slot_enumerate_next
      (wpAny_call_entry F.slot_enumerate_next hT F.entry_enumerate_next ?_ (F.args_enumerate_next_1 _))))
    show wpAny _ _ (field (.ref e) 2 >>= _) _ _ _
    refine wpAny_bind (wpAny_field he rfl (x := .ref it) rfl ?_)
    refine wpAny_bind (nextOf_tuple_end (by simp [I.ok.hd hc]) hit ht (by simp; omega) fun h' x he' hx' => ?_)
    obtain ⟨o, ho, hc'⟩ := hx'
    refine wpAny_bind (wpAny_isInstance (T := "StopIteration") (b := true) ⟨o, ho, hc'⟩ isSubtype_stop ?_)
    exact wpAny_pure ⟨rfl, I.turnedL (t' := s.toks) (ch := [it]) (fun b o hb q => he' b o (fun z => hb (by simp [z])) q) fun b hb => by rw [List.mem_singleton.mp hb]; exact hf it (by simp)⟩
  self := fun _ _ _ _ _ st h => by
    obtain ⟨⟨old, he⟩, _⟩ := st
    exact wpAny_pyIter_enum he h
def iEnum (K : PySem.W.Frag) (ta : TA) : TI := fun σ H R => ta σ H fun vs H1 => ∃ a, vs = [.ref a] ∧ (∃ xs, SqT K H1 a xs) ∧ R (Ite K a) H1
theorem boot_enum : bootBuiltins "enumerate" = some (.type "enumerate") := by decide +kernel
theorem pi_enum {X : Cx} {elts : List Expr} {x1 : Nat} {tpos : Pos} {a : Expr} {ta : TA} {p pos : Pos} (hg : Gl X "enumerate") (hm : X.mg "enumerate" = none) (ha : PA X [a] ta) (hpl : plainE a = true) : PI X (.Tuple elts x1 tpos) (.Call (.Name "enumerate" p) [a] [] pos) (iEnum X.K ta) := by
  intro pins s σ H R I h
  refine Call_ (ld_blt I hg hm boot_enum (PyProof.Rows.callWith_type1 (thn (ha pos pins s σ H _ I h) fun us s1 ⟨vs, H1, I1, r1, q1⟩ => ?_) (star_cons hpl) rfl))
  obtain ⟨b, e, ⟨xs, hq⟩, q⟩ := q1
  subst e
  obtain ⟨u, rfl, ru⟩ := vals1 r1
  cases (show u = Value.ref b from ru)
  obtain ⟨its, rv, pt, hz⟩ := I1.tuple hq
  refine call_enumerate_tuple (show s1.heap.IsTuple b its.toArray from pt) fun h' he hi hsz hk => ?_
  have I2 : Inv X pins σ H1 { s1 with heap := h' } := I1.kept (t' := s1.toks) hk
  refine wpAny_pyIter_enum (s := { s1 with heap := h' }) he ?_
  refine ⟨s1.heap.objs.size + 1, [s1.heap.objs.size + 1, s1.heap.objs.size], _, _, H1, rfl, I2, turn_enum b _ _ (Nat.succ_ne_self _), ⟨⟨.none, he⟩, hi⟩, fun c hc => ?_, q⟩
  rcases List.mem_cons.mp hc with rfl | hc
  · exact I1.fpOk (Nat.le_succ _) (I1.hok.fresh (Nat.le_succ _))
  · rw [List.mem_singleton.mp hc]
    exact I1.fpOk (Nat.le_refl _) (I1.hok.fresh (Nat.le_refl _))
end L2
set_option linter.all false
set_option maxRecDepth 100000
namespace SetT
open PySem PySem.SetTable
def adv (mask : Nat) (p : Probe) : Probe :=
  if p.more > 0 then { p with j := p.j + 1, more := p.more - 1 } else
  { p with j := (leap mask p.i p.perturb).1, more := runEnd mask (leap mask p.i p.perturb).1 - (leap mask p.i p.perturb).1, i := (leap mask p.i p.perturb).1, perturb := (leap mask p.i p.perturb).2 }
theorem adv_eq (t : SetTable) (p : Probe) : t.advance p = adv t.mask p := by
  unfold SetTable.advance adv
  split <;> rfl
def st0 (mask : Nat) (b : Nat) : Probe := { j := b % (mask + 1), more := runEnd mask (b % (mask + 1)) - b % (mask + 1), i := b % (mask + 1), perturb := b, dummy := none }
def stk (mask b : Nat) : Nat → Probe
  | 0 => st0 mask b
  | k + 1 => adv mask (stk mask b k)
theorem stk_zero (t : SetTable) (h : Int) : t.probeStart h = stk t.mask (bits h) 0 := rfl
theorem stk_dummy (mask b : Nat) : ∀ k, (stk mask b k).dummy = none
  | 0 => rfl
  | k + 1 => by
    have ih := stk_dummy mask b k
    show (adv mask (stk mask b k)).dummy = none
    unfold adv
    split <;> exact ih
def pos (mask b k : Nat) : Nat := (stk mask b k).j
def rs (mask b : Nat) : Nat → Nat × Nat
  | 0 => (b % (mask + 1), b)
  | n + 1 => leap mask (rs mask b n).1 (rs mask b n).2
theorem more_le (mask i : Nat) : runEnd mask i - i ≤ 9 := by unfold runEnd; split <;> omega
theorem stk_run (mask b : Nat) {k n : Nat} (h : stk mask b k = { j := (rs mask b n).1, more := runEnd mask (rs mask b n).1 - (rs mask b n).1, i := (rs mask b n).1, perturb := (rs mask b n).2, dummy := none }) :
    ∀ m, m ≤ runEnd mask (rs mask b n).1 - (rs mask b n).1 → stk mask b (k + m) = { j := (rs mask b n).1 + m, more := runEnd mask (rs mask b n).1 - (rs mask b n).1 - m, i := (rs mask b n).1, perturb := (rs mask b n).2, dummy := none }
  | 0, _ => by rw [Nat.add_zero, h]; rfl
  | m + 1, hm => by
    have ih := stk_run mask b h m (by omega)
    show adv mask (stk mask b (k + m)) = _
    rw [ih]
    unfold adv
    rw [if_pos (by show runEnd mask (rs mask b n).1 - (rs mask b n).1 - m > 0; omega)]
    simp only [Probe.mk.injEq, and_true, true_and]
    omega
theorem run_at (mask b : Nat) : ∀ n, ∃ k, k ≤ 10 * n ∧ stk mask b k = { j := (rs mask b n).1, more := runEnd mask (rs mask b n).1 - (rs mask b n).1, i := (rs mask b n).1, perturb := (rs mask b n).2, dummy := none }
  | 0 => ⟨0, Nat.le_refl _, rfl⟩
  | n + 1 => by
    obtain ⟨k, hk, e⟩ := run_at mask b n
    have m9 := more_le mask (rs mask b n).1
    have e2 := stk_run mask b e (runEnd mask (rs mask b n).1 - (rs mask b n).1) (Nat.le_refl _)
    refine ⟨k + (runEnd mask (rs mask b n).1 - (rs mask b n).1) + 1, by omega, ?_⟩
    show adv mask (stk mask b (k + (runEnd mask (rs mask b n).1 - (rs mask b n).1))) = _
    rw [e2]
    unfold adv
    rw [if_neg (by show ¬ runEnd mask (rs mask b n).1 - (rs mask b n).1 - (runEnd mask (rs mask b n).1 - (rs mask b n).1) > 0; omega)]
    rfl
theorem rs_pert (mask b : Nat) : ∀ n, (rs mask b n).2 = b / 32 ^ n
  | 0 => by show b = b / 32 ^ 0; rw [Nat.pow_zero, Nat.div_one]
  | n + 1 => by
    show (rs mask b n).2 / 32 = b / 32 ^ (n + 1)
    rw [rs_pert mask b n, Nat.div_div_eq_div_mul, Nat.pow_succ]
theorem rs_lt (mask b : Nat) : ∀ n, (rs mask b n).1 < mask + 1
  | 0 => Nat.mod_lt _ (Nat.succ_pos _)
  | n + 1 => Nat.mod_lt _ (Nat.succ_pos _)
def fL (mask x : Nat) : Nat := (x * 5 + 1) % (mask + 1)
def itF (mask x : Nat) : Nat → Nat
  | 0 => x
  | n + 1 => fL mask (itF mask x n)
theorem rs_late (mask b : Nat) (hb : b < 2 ^ 64) : ∀ r, (rs mask b (12 + r)).1 = itF mask (rs mask b 12).1 r
  | 0 => rfl
  | r + 1 => by
    show ((rs mask b (12 + r)).1 * 5 + 1 + (rs mask b (12 + r)).2 / 32) % (mask + 1) = fL mask (itF mask (rs mask b 12).1 r)
    have hp : (rs mask b (12 + r)).2 / 32 = 0 := by
      rw [rs_pert, Nat.div_div_eq_div_mul]
      refine Nat.div_eq_of_lt (Nat.lt_of_lt_of_le hb ?_)
      have e : 32 ^ (12 + r) * 32 = 2 ^ 64 * (2 * 32 ^ r) := by
        rw [Nat.pow_add, show (32 : Nat) ^ 12 = 2 ^ 60 from rfl, show (2 : Nat) ^ 64 = 2 ^ 60 * 16 from rfl, Nat.mul_right_comm, Nat.mul_assoc (2 ^ 60) 16, ← Nat.mul_assoc 16 2, Nat.mul_assoc (2 ^ 60) 32]
      rw [e]
      refine Nat.le_mul_of_pos_right _ ?_
      have := Nat.pow_pos (n := r) (show 0 < 32 by decide)
      omega
    rw [hp, rs_late mask b hb r]
    rfl
def orbit (mask x : Nat) : Nat → List Nat
  | 0 => []
  | n + 1 => x :: orbit mask (fL mask x) n
theorem itF_succ (mask x : Nat) : ∀ n, itF mask (fL mask x) n = itF mask x (n + 1)
  | 0 => rfl
  | n + 1 => by show fL mask (itF mask (fL mask x) n) = fL mask (itF mask x (n + 1)); rw [itF_succ mask x n]
theorem mem_orbit (mask : Nat) : ∀ (n x z : Nat), z ∈ orbit mask x n → ∃ r, r < n ∧ itF mask x r = z
  | 0, _, _, h => nomatch h
  | n + 1, x, z, h => by
    rcases List.mem_cons.mp h with e | h
    · exact ⟨0, Nat.succ_pos _, e.symm⟩
    · obtain ⟨r, hr, e⟩ := mem_orbit mask n (fL mask x) z h
      exact ⟨r + 1, by omega, by rw [← itF_succ]; exact e⟩
def fullB (mask : Nat) : Bool := (List.range (mask + 1)).all (fun z => (orbit mask 0 (mask + 1)).contains z) && (itF mask 0 (mask + 1) == 0)
theorem itF_add (mask x m : Nat) : ∀ n, itF mask (itF mask x m) n = itF mask x (m + n)
  | 0 => rfl
  | n + 1 => by show fL mask (itF mask (itF mask x m) n) = fL mask (itF mask x (m + n)); rw [itF_add mask x m n]
theorem full_of {mask : Nat} (h : fullB mask = true) {x z : Nat} (hx : x < mask + 1) (hz : z < mask + 1) : ∃ r, r < mask + 1 ∧ itF mask x r = z := by
  unfold fullB at h
  rw [Bool.and_eq_true] at h
  obtain ⟨h1, h2⟩ := h
  have h2 : itF mask 0 (mask + 1) = 0 := beq_iff_eq.mp h2
  have all := fun y (hy : y < mask + 1) => mem_orbit mask (mask + 1) 0 y (List.contains_iff_mem.mp (List.all_eq_true.mp h1 y (List.mem_range.mpr hy)))
  obtain ⟨a, ha, ea⟩ := all x hx
  obtain ⟨c, hc, ec⟩ := all z hz
  by_cases hac : a ≤ c
  · refine ⟨c - a, by omega, ?_⟩
    rw [← ea, itF_add, show a + (c - a) = c by omega]
    exact ec
  · refine ⟨mask + 1 - a + c, by omega, ?_⟩
    rw [← ea, itF_add, show a + (mask + 1 - a + c) = mask + 1 + c by omega, ← itF_add, h2]
    exact ec
theorem reach {mask b z : Nat} (hf : fullB mask = true) (hb : b < 2 ^ 64) (hz : z < mask + 1) : ∃ n, n ≤ 12 + mask ∧ (rs mask b n).1 = z := by
  obtain ⟨r, hr, e⟩ := full_of hf (rs_lt mask b 12) hz
  exact ⟨12 + r, by omega, by rw [rs_late mask b hb]; exact e⟩
theorem reachP {mask b z : Nat} (hf : fullB mask = true) (hb : b < 2 ^ 64) (hz : z < mask + 1) : ∃ k, k < 10 * turns mask ∧ pos mask b k = z := by
  obtain ⟨n, hn, e⟩ := reach hf hb hz
  obtain ⟨k, hk, e2⟩ := run_at mask b n
  refine ⟨k, by unfold turns; omega, ?_⟩
  unfold pos
  rw [e2]
  exact e
theorem full7 : fullB 7 = true := by decide +kernel
theorem full31 : fullB 31 = true := by decide +kernel
theorem full127 : fullB 127 = true := by decide +kernel
theorem full511 : fullB 511 = true := by decide +kernel
theorem bits_lt (h : Int) : bits h < 2 ^ 64 := by
  unfold bits
  have h1 := Int.emod_nonneg h (show (2 ^ 64 : Int) ≠ 0 by decide)
  have h2 := Int.emod_lt_of_pos h (show (0 : Int) < 2 ^ 64 by decide)
  omega
def Rise (xs : Array Nat) : Prop := ∀ i j, i < j → j < xs.size → xs.getD i 0 < xs.getD j 0
theorem below_go {xs : Array Nat} {j : Nat} (hr : Rise xs) : ∀ (fuel lo hi : Nat), hi - lo ≤ fuel → lo ≤ hi → hi ≤ xs.size → (∀ i, i < lo → xs.getD i 0 < j) → (∀ i, hi ≤ i → i < xs.size → j ≤ xs.getD i 0) →
    ∀ r, below.go xs j fuel lo hi = r → r ≤ xs.size ∧ (∀ i, i < r → xs.getD i 0 < j) ∧ (∀ i, r ≤ i → i < xs.size → j ≤ xs.getD i 0)
  | 0, lo, hi, h1, h2, h3, a, b, r, e => by
    have e' : lo = r := e
    subst e'
    exact ⟨by omega, a, fun i hi' => b i (by omega)⟩
  | fuel + 1, lo, hi, h1, h2, h3, a, b, r, e => by
    unfold below.go at e
    by_cases hlt : lo < hi
    · rw [if_pos hlt] at e
      have hmid : (lo + hi) / 2 < xs.size := by omega
      have gd : xs.getD ((lo + hi) / 2) j = xs.getD ((lo + hi) / 2) 0 := by
        simp [Array.getD, hmid]
      simp only [gd] at e
      by_cases hc : xs.getD ((lo + hi) / 2) 0 < j
      · rw [if_pos hc] at e
        refine below_go hr fuel ((lo + hi) / 2 + 1) hi (by omega) (by omega) h3 (fun i hi' => ?_) b r e
        rcases Nat.lt_or_ge i ((lo + hi) / 2) with z | z
        · exact Nat.lt_trans (hr i _ z hmid) hc
        · have : i = (lo + hi) / 2 := by omega
          rw [this]; exact hc
      · rw [if_neg hc] at e
        refine below_go hr fuel lo ((lo + hi) / 2) (by omega) (by omega) (by omega) a (fun i hi' hs => ?_) r e
        rcases Nat.lt_or_ge ((lo + hi) / 2) i with z | z
        · exact Nat.le_trans (Nat.le_of_not_lt hc) (Nat.le_of_lt (hr _ i z hs))
        · have : i = (lo + hi) / 2 := by omega
          rw [this]; exact Nat.le_of_not_lt hc
    · rw [if_neg hlt] at e
      subst e
      exact ⟨by omega, a, fun i hi' => b i (by omega)⟩
theorem below_spec {xs : Array Nat} (hr : Rise xs) (j : Nat) : below xs j ≤ xs.size ∧ (∀ i, i < below xs j → xs.getD i 0 < j) ∧ (∀ i, below xs j ≤ i → i < xs.size → j ≤ xs.getD i 0) :=
  below_go hr xs.size 0 xs.size (by omega) (Nat.zero_le _) (Nat.le_refl _) (fun i h => absurd h (Nat.not_lt_zero _)) (fun i h1 h2 => absurd h2 (by omega)) _ rfl
theorem getD_of {xs : Array Nat} {i v : Nat} (h : xs[i]? = some v) : i < xs.size ∧ xs.getD i 0 = v := by
  obtain ⟨h1, h2⟩ := Array.getElem?_eq_some_iff.mp h
  exact ⟨h1, by simp [Array.getD, h1, h2]⟩
theorem of_getD {xs : Array Nat} {i : Nat} (h : i < xs.size) : xs[i]? = some (xs.getD i 0) := by simp [Array.getD, h]
theorem below_at {xs : Array Nat} (hr : Rise xs) {i j : Nat} (h : xs[i]? = some j) : below xs j = i := by
  obtain ⟨b1, b2, b3⟩ := below_spec hr j
  obtain ⟨h1, h2⟩ := getD_of h
  rcases Nat.lt_trichotomy (below xs j) i with z | z | z
  · have h3 := b3 (below xs j) (Nat.le_refl _) (by omega)
    have h4 := hr _ _ z h1
    omega
  · exact z
  · have := b2 i z
    omega
theorem slot_live {t : SetTable} (hr : Rise t.place) {i j : Nat} (h : t.place[i]? = some j) : t.slot j = .live i := by
  unfold SetTable.slot
  rw [below_at hr h]
  simp [h]
theorem slot_cases (t : SetTable) (hd : t.dummies = #[]) (j : Nat) : (∃ i, t.slot j = .live i ∧ t.place[i]? = some j) ∨ t.slot j = .empty := by
  unfold SetTable.slot
  by_cases h : (t.place[below t.place j]? == some j) = true
  · refine .inl ⟨below t.place j, ?_, beq_iff_eq.mp h⟩
    simp [h]
  · refine .inr ?_
    have e : has t.dummies j = false := by rw [hd]; rfl
    simp [h, e]
theorem slot_empty {t : SetTable} (hr : Rise t.place) {j : Nat} (h : t.slot j = .empty) : ∀ i : Nat, t.place[i]? ≠ some j := fun i z => by
  rw [slot_live hr z] at h
  cases h
end SetT
set_option linter.all false
set_option maxRecDepth 100000
namespace SetT
open PySem PySem.SetTable
structure SetOk (t : SetTable) (es : Array (Int × Value)) : Prop where
  full : fullB t.mask = true
  odd : t.mask % 2 = 1
  nod : t.dummies = #[]
  rise : Rise t.place
  le : ∀ (i v : Nat), t.place[i]? = some v → v < t.mask + 1
  size : t.place.size = es.size
  path : ∀ (i v : Nat) (e : Int × Value), t.place[i]? = some v → es[i]? = some e → ∃ k, pos t.mask (bits e.1) k = v ∧ ∀ k', k' < k → ∃ i' : Nat, t.place[i']? = some (pos t.mask (bits e.1) k')
theorem some_free {xs : Array Nat} (hr : Rise xs) {m : Nat} (hs : xs.size < m) : ∃ z, z < m ∧ ∀ i : Nat, xs[i]? ≠ some z := by
  refine Classical.byContradiction fun hno => ?_
  have all : ∀ z, z < m → ∃ i : Nat, xs[i]? = some z := fun z hz => Classical.byContradiction fun hn => hno ⟨z, hz, fun i e => hn ⟨i, e⟩⟩
  have ge : ∀ z, z < m → ∃ i : Nat, xs[i]? = some z ∧ z ≤ i := by
    intro z
    induction z with
    | zero => intro h; obtain ⟨i, e⟩ := all 0 h; exact ⟨i, e, Nat.zero_le _⟩
    | succ z ih =>
      intro h
      obtain ⟨i, e, hi⟩ := ih (by omega)
      obtain ⟨j, e'⟩ := all (z + 1) h
      refine ⟨j, e', ?_⟩
      obtain ⟨a1, a2⟩ := getD_of e
      obtain ⟨b1, b2⟩ := getD_of e'
      rcases Nat.lt_trichotomy i j with q | q | q
      · omega
      · subst q; omega
      · have := hr j i q a1; omega
  by_cases h0 : m = 0
  · omega
  · obtain ⟨i, e, hi⟩ := ge (m - 1) (by omega)
    have := (getD_of e).1
    omega
theorem least {P : Nat → Prop} : ∀ n, P n → ∃ k, k ≤ n ∧ P k ∧ ∀ k', k' < k → ¬ P k' := by
  intro n
  induction n using Nat.strongRecOn with
  | _ n ih =>
    intro hn
    by_cases h : ∃ k, k < n ∧ P k
    · obtain ⟨k, hk, pk⟩ := h
      obtain ⟨k2, h1, h2, h3⟩ := ih k hk pk
      exact ⟨k2, by omega, h2, h3⟩
    · exact ⟨n, Nat.le_refl _, hn, fun k' hk' pk' => h ⟨k', hk', pk'⟩⟩
variable {t : SetTable} {es : Array (Int × Value)}
theorem first_empty (ok : SetOk t es) (room : es.size < t.mask + 1) (b : Nat) (hb : b < 2 ^ 64) :
    ∃ k0, k0 < 10 * turns t.mask ∧ t.slot (pos t.mask b k0) = .empty ∧ ∀ k', k' < k0 → ∃ i : Nat, t.slot (pos t.mask b k') = .live i ∧ t.place[i]? = some (pos t.mask b k') := by
  obtain ⟨z, hz, hfree⟩ := some_free ok.rise (show t.place.size < t.mask + 1 by rw [ok.size]; exact room)
  obtain ⟨k, hk, e⟩ := reachP ok.full hb hz
  have hemp : t.slot (pos t.mask b k) = .empty := by
    rcases slot_cases t ok.nod (pos t.mask b k) with ⟨i, _, h⟩ | h
    · rw [e] at h; exact absurd h (hfree i)
    · exact h
  obtain ⟨k0, h1, h2, h3⟩ := least (P := fun k => t.slot (pos t.mask b k) = .empty) k hemp
  refine ⟨k0, by omega, h2, fun k' hk' => ?_⟩
  rcases slot_cases t ok.nod (pos t.mask b k') with h | h
  · exact h
  · exact absurd h (h3 k' hk')
theorem go_spec (ok : SetOk t es) {b k0 : Nat} {f : Nat → Int} {h : Int} (he : t.slot (pos t.mask b k0) = .empty) (hl : ∀ k', k' < k0 → ∃ i : Nat, t.slot (pos t.mask b k') = .live i ∧ t.place[i]? = some (pos t.mask b k')) :
    ∀ (fuel k : Nat), k ≤ k0 → k0 - k < fuel →
      (probe.go t f h fuel (stk t.mask b k) = some (.empty (pos t.mask b k0) none) ∧ ∀ k', k ≤ k' → k' < k0 → ∃ i : Nat, t.place[i]? = some (pos t.mask b k') ∧ f i ≠ h) ∨
      (∃ k1 i, probe.go t f h fuel (stk t.mask b k) = some (.candidate (pos t.mask b k1) i (stk t.mask b (k1 + 1))) ∧ k ≤ k1 ∧ k1 < k0 ∧ t.place[i]? = some (pos t.mask b k1) ∧ f i = h ∧ t.slot (pos t.mask b k1) = .live i ∧
        ∀ k', k ≤ k' → k' < k1 → ∃ i : Nat, t.place[i]? = some (pos t.mask b k') ∧ f i ≠ h)
  | 0, k, _, hf => absurd hf (Nat.not_lt_zero _)
  | fuel + 1, k, hk, hf => by
    by_cases hk0 : k = k0
    · subst hk0
      refine .inl ⟨?_, fun k' h1 h2 => absurd h1 (by omega)⟩
      unfold probe.go
      have e : t.slot (stk t.mask b k).j = .empty := he
      rw [e]
      show some (Met.empty (stk t.mask b k).j (stk t.mask b k).dummy) = _
      rw [stk_dummy]
      rfl
    · obtain ⟨i, hi, hp⟩ := hl k (by omega)
      have e : t.slot (stk t.mask b k).j = .live i := hi
      by_cases hh : f i = h
      · refine .inr ⟨k, i, ?_, Nat.le_refl _, by omega, hp, hh, hi, fun k' h1 h2 => absurd h1 (by omega)⟩
        unfold probe.go
        rw [e]
        show (if f i == h then some (Met.candidate (stk t.mask b k).j i (t.advance (stk t.mask b k))) else _) = _
        rw [if_pos (beq_iff_eq.mpr hh), adv_eq]
        rfl
      · have step : probe.go t f h (fuel + 1) (stk t.mask b k) = probe.go t f h fuel (stk t.mask b (k + 1)) := by
          conv => lhs; unfold probe.go
          rw [e]
          show (if f i == h then _ else probe.go t f h fuel (t.advance (stk t.mask b k))) = _
          rw [if_neg (fun z => hh (beq_iff_eq.mp z)), adv_eq]
          rfl
        rw [step]
        rcases go_spec ok he hl fuel (k + 1) (by omega) (by omega) with ⟨h1, h2⟩ | ⟨k1, i1, h1, h2, h3, h4, h5, h6, h7⟩
        · refine .inl ⟨h1, fun k' a1 a2 => ?_⟩
          by_cases q : k' = k
          · subst q; exact ⟨i, hp, hh⟩
          · exact h2 k' (by omega) a2
        · refine .inr ⟨k1, i1, h1, by omega, h3, h4, h5, h6, fun k' a1 a2 => ?_⟩
          by_cases q : k' = k
          · subst q; exact ⟨i, hp, hh⟩
          · exact h7 k' (by omega) a2
theorem insertAt_list {α : Type} (xs : Array α) (p : Nat) (x : α) : (insertAt xs p x).toList = xs.toList.take p ++ x :: xs.toList.drop p := by
  unfold insertAt
  simp
  exact List.take_of_length_le (by simp)
theorem insertAt_get {α : Type} (xs : Array α) (p : Nat) (x : α) (hp : p ≤ xs.size) (i : Nat) : (insertAt xs p x)[i]? = if i < p then xs[i]? else if i = p then some x else xs[i - 1]? := by
  rw [← Array.getElem?_toList, insertAt_list]
  have hl : (xs.toList.take p).length = p := by rw [List.length_take, Array.length_toList]; omega
  by_cases h1 : i < p
  · rw [if_pos h1, List.getElem?_append_left (by omega), List.getElem?_take_of_lt h1, Array.getElem?_toList]
  · rw [if_neg h1, List.getElem?_append_right (by omega), hl]
    by_cases h2 : i = p
    · rw [if_pos h2, h2, Nat.sub_self]; rfl
    · rw [if_neg h2]
      obtain ⟨d, rfl⟩ : ∃ d, i = p + d + 1 := ⟨i - p - 1, by omega⟩
      rw [show p + d + 1 - p = d + 1 by omega, List.getElem?_cons_succ, List.getElem?_drop, Array.getElem?_toList, show p + d + 1 - 1 = p + d by omega]
theorem insertAt_size {α : Type} (xs : Array α) (p : Nat) (x : α) (hp : p ≤ xs.size) : (insertAt xs p x).size = xs.size + 1 := by
  rw [← Array.length_toList, insertAt_list, List.length_append, List.length_cons, List.length_take, List.length_drop, Array.length_toList]
  omega
theorem put_eq (hd : t.dummies = #[]) (j : Nat) : t.put j = ({ t with place := insertAt t.place (below t.place j) j }, below t.place j) := by
  unfold SetTable.put
  have e : has t.dummies j = false := by rw [hd]; rfl
  simp [e]
theorem insert_ok (ok : SetOk t es) {h : Int} {x : Value} {k0 : Nat} (he : t.slot (pos t.mask (bits h) k0) = .empty) (hlt : pos t.mask (bits h) k0 < t.mask + 1) (hl : ∀ k', k' < k0 → ∃ i : Nat, t.slot (pos t.mask (bits h) k') = .live i ∧ t.place[i]? = some (pos t.mask (bits h) k')) :
    SetOk { t with place := insertAt t.place (below t.place (pos t.mask (bits h) k0)) (pos t.mask (bits h) k0) } (insertAt es (below t.place (pos t.mask (bits h) k0)) (h, x)) := by
  obtain ⟨b1, b2, b3⟩ := below_spec ok.rise (pos t.mask (bits h) k0)
  have hfree := slot_empty ok.rise he
  have b1' : below t.place (pos t.mask (bits h) k0) ≤ es.size := by rw [← ok.size]; exact b1
  generalize hj : pos t.mask (bits h) k0 = j at *
  have hgt : ∀ i, below t.place j ≤ i → i < t.place.size → j < t.place.getD i 0 := fun i h1 h2 => by
    have h3 := b3 i h1 h2
    have h4 : t.place.getD i 0 ≠ j := fun z => hfree i (by rw [of_getD h2, z])
    omega
  have old : ∀ i v : Nat, t.place[i]? = some v → ∃ i' : Nat, (insertAt t.place (below t.place j) j)[i']? = some v := fun i v hv => by
    by_cases hi : i < below t.place j
    · exact ⟨i, by rw [insertAt_get _ _ _ b1, if_pos hi]; exact hv⟩
    · exact ⟨i + 1, by rw [insertAt_get _ _ _ b1, if_neg (by omega), if_neg (by omega)]; exact hv⟩
  have gd : ∀ i, i < (insertAt t.place (below t.place j) j).size → (insertAt t.place (below t.place j) j).getD i 0 = if i < below t.place j then t.place.getD i 0 else if i = below t.place j then j else t.place.getD (i - 1) 0 := fun i hi => by
    have e1 := of_getD hi
    rw [insertAt_get _ _ _ b1] at e1
    rw [insertAt_size _ _ _ b1] at hi
    by_cases h1 : i < below t.place j
    · rw [if_pos h1] at e1 ⊢
      exact (getD_of e1).2.symm
    · rw [if_neg h1] at e1 ⊢
      by_cases h2 : i = below t.place j
      · rw [if_pos h2] at e1 ⊢
        exact (Option.some.inj e1).symm
      · rw [if_neg h2] at e1 ⊢
        exact (getD_of e1).2.symm
  refine ⟨ok.full, ok.odd, ok.nod, fun i i' hii hi' => ?_, fun i v hv => ?_, ?_, fun i v e hv hee => ?_⟩
  · have hi'' := hi'
    show (insertAt t.place (below t.place j) j).getD i 0 < (insertAt t.place (below t.place j) j).getD i' 0
    rw [gd i (Nat.lt_trans hii hi'), gd i' hi']
    have hsz : i' < t.place.size + 1 := by rw [← insertAt_size _ _ j b1]; exact hi'
    by_cases h1 : i' < below t.place j
    · rw [if_pos (show i < below t.place j by omega), if_pos h1]
      exact ok.rise i i' hii (by omega)
    · rw [if_neg h1]
      by_cases h2 : i' = below t.place j
      · rw [if_pos h2, if_pos (show i < below t.place j by omega)]
        exact b2 i (by omega)
      · rw [if_neg h2]
        by_cases h3 : i < below t.place j
        · rw [if_pos h3]
          have q1 := b2 i h3
          have q2 := hgt (i' - 1) (by omega) (by omega)
          omega
        · rw [if_neg h3]
          by_cases h4 : i = below t.place j
          · rw [if_pos h4]
            exact hgt (i' - 1) (by omega) (by omega)
          · rw [if_neg h4]
            exact ok.rise (i - 1) (i' - 1) (by omega) (by omega)
  · have hv' : (insertAt t.place (below t.place j) j)[i]? = some v := hv
    rw [insertAt_get _ _ _ b1] at hv'
    by_cases h1 : i < below t.place j
    · rw [if_pos h1] at hv'; exact ok.le i v hv'
    · rw [if_neg h1] at hv'
      by_cases h2 : i = below t.place j
      · rw [if_pos h2] at hv'; cases hv'; exact hlt
      · rw [if_neg h2] at hv'; exact ok.le (i - 1) v hv'
  · show (insertAt t.place (below t.place j) j).size = (insertAt es (below t.place j) (h, x)).size
    rw [insertAt_size _ _ _ b1, insertAt_size _ _ _ b1', ok.size]
  · have hv' : (insertAt t.place (below t.place j) j)[i]? = some v := hv
    rw [insertAt_get _ _ _ b1] at hv'
    rw [insertAt_get _ _ _ b1'] at hee
    have goal : ∀ (i0 : Nat), t.place[i0]? = some v → es[i0]? = some e → ∃ k, pos t.mask (bits e.1) k = v ∧ ∀ k', k' < k → ∃ i' : Nat, (insertAt t.place (below t.place j) j)[i']? = some (pos t.mask (bits e.1) k') := fun i0 q1 q2 => by
      obtain ⟨k, hk, hp⟩ := ok.path i0 v e q1 q2
      exact ⟨k, hk, fun k' hk' => let ⟨i', q⟩ := hp k' hk'; old i' _ q⟩
    by_cases h1 : i < below t.place j
    · rw [if_pos h1] at hv' hee; exact goal i hv' hee
    · rw [if_neg h1] at hv' hee
      by_cases h2 : i = below t.place j
      · rw [if_pos h2] at hv' hee
        cases hv'
        cases hee
        refine ⟨k0, hj, fun k' hk' => ?_⟩
        obtain ⟨i', _, q⟩ := hl k' hk'
        exact old i' _ q
      · rw [if_neg h2] at hv' hee; exact goal (i - 1) hv' hee
end SetT
set_option linter.all false
set_option maxRecDepth 100000
namespace SetT
open PySem PySem.SetTable
def Occ (owner : Array (Option Nat)) (j : Nat) : Prop := (owner.getD j (some 0)).isNone = false
theorem free_spec {mask b : Nat} {owner : Array (Option Nat)} : ∀ (fuel n kn : Nat), stk mask b kn = { j := (rs mask b n).1, more := runEnd mask (rs mask b n).1 - (rs mask b n).1, i := (rs mask b n).1, perturb := (rs mask b n).2, dummy := none } →
    (∃ n', n ≤ n' ∧ n' < n + fuel ∧ ¬ Occ owner (rs mask b n').1) →
    ∃ k j, layClean.free mask owner fuel (rs mask b n).1 (rs mask b n).2 = some j ∧ kn ≤ k ∧ pos mask b k = j ∧ ¬ Occ owner j ∧ ∀ k', kn ≤ k' → k' < k → Occ owner (pos mask b k')
  | 0, n, kn, _, ⟨n', h1, h2, _⟩ => absurd h2 (by omega)
  | fuel + 1, n, kn, hk, ⟨n', h1, h2, hf⟩ => by
    unfold layClean.free
    have run := stk_run mask b hk
    have ge : (rs mask b n).1 ≤ runEnd mask (rs mask b n).1 := by unfold runEnd; split <;> omega
    cases hfi : (List.range (runEnd mask (rs mask b n).1 + 1 - (rs mask b n).1)).find? fun k => (owner.getD ((rs mask b n).1 + k) (some 0)).isNone with
    | some m =>
      obtain ⟨p1, p2, p3⟩ := List.find?_range_eq_some.mp hfi
      have hm : m < runEnd mask (rs mask b n).1 + 1 - (rs mask b n).1 := by simpa using p2
      refine ⟨kn + m, (rs mask b n).1 + m, rfl, by omega, ?_, ?_, fun k' a1 a2 => ?_⟩
      · unfold pos; rw [run m (by omega)]
      · unfold Occ; rw [p1]; simp
      · obtain ⟨d, rfl⟩ : ∃ d, k' = kn + d := ⟨k' - kn, by omega⟩
        have q := p3 d (by omega)
        unfold pos Occ
        rw [run d (by omega)]
        simpa using q
    | none =>
      have p := List.find?_range_eq_none.mp hfi
      have occ : ∀ m, m < runEnd mask (rs mask b n).1 + 1 - (rs mask b n).1 → Occ owner ((rs mask b n).1 + m) := fun m hm => by
        have q := p m hm
        unfold Occ
        simpa using q
      have hne : n ≠ n' := fun z => by
        subst z
        exact hf (by simpa using occ 0 (by omega))
      have hk' : stk mask b (kn + (runEnd mask (rs mask b n).1 - (rs mask b n).1) + 1) = { j := (rs mask b (n + 1)).1, more := runEnd mask (rs mask b (n + 1)).1 - (rs mask b (n + 1)).1, i := (rs mask b (n + 1)).1, perturb := (rs mask b (n + 1)).2, dummy := none } := by
        show adv mask (stk mask b (kn + (runEnd mask (rs mask b n).1 - (rs mask b n).1))) = _
        rw [run _ (Nat.le_refl _)]
        unfold adv
        rw [if_neg (by show ¬ runEnd mask (rs mask b n).1 - (rs mask b n).1 - (runEnd mask (rs mask b n).1 - (rs mask b n).1) > 0; omega)]
        rfl
      obtain ⟨k, j, e1, e2, e3, e4, e5⟩ := free_spec fuel (n + 1) _ hk' ⟨n', by omega, by omega, hf⟩
      refine ⟨k, j, e1, by omega, e3, e4, fun k' a1 a2 => ?_⟩
      by_cases q : k' < kn + (runEnd mask (rs mask b n).1 - (rs mask b n).1) + 1
      · obtain ⟨d, rfl⟩ : ∃ d, k' = kn + d := ⟨k' - kn, by omega⟩
        unfold pos
        rw [run d (by omega)]
        exact occ d (by omega)
      · exact e5 k' (by omega) a2
structure LayOk (mask : Nat) (hs : List Int) (owner : Array (Option Nat)) (k : Nat) : Prop where
  size : owner.size = mask + 1
  cnt : owner.toList.countP (·.isNone) + k = mask + 1
  lt : ∀ (j m : Nat), owner[j]? = some (some m) → m < k
  has : ∀ m, m < k → ∃ j : Nat, owner[j]? = some (some m)
  path : ∀ (j m : Nat) (h : Int), owner[j]? = some (some m) → hs[m]? = some h → ∃ kk, pos mask (bits h) kk = j ∧ ∀ k', k' < kk → Occ owner (pos mask (bits h) k')
theorem countP_set : ∀ (l : List (Option Nat)) (j m : Nat), l[j]? = some none → (l.set j (some m)).countP (·.isNone) + 1 = l.countP (·.isNone)
  | [], _, _, h => by simp at h
  | a :: l, 0, m, h => by
    simp at h
    subst h
    simp [List.countP_cons]
  | a :: l, j + 1, m, h => by
    have ih := countP_set l j m (by simpa using h)
    simp only [List.set_cons_succ, List.countP_cons]
    omega
theorem lay_step {mask k : Nat} {hs : List Int} {owner : Array (Option Nat)} {h : Int} (hf : fullB mask = true) (L : LayOk mask hs owner k) (hh : hs[k]? = some h) (room : k < mask + 1) :
    ∃ j, layClean.free mask owner (turns mask) (bits h % (mask + 1)) (bits h) = some j ∧ LayOk mask hs (owner.setIfInBounds j (some k)) (k + 1) := by
  have hpos : 0 < owner.toList.countP (·.isNone) := by have := L.cnt; omega
  obtain ⟨o, ho1, ho2⟩ := List.countP_pos_iff.mp hpos
  obtain ⟨z, hz, ez⟩ := List.getElem_of_mem ho1
  have hz' : z < owner.size := by simpa using hz
  have ez' : owner[z]? = some none := by
    rw [← Array.getElem?_toList, List.getElem?_eq_getElem hz, ez]
    cases o with
    | none => rfl
    | some _ => cases ho2
  have hnocc : ¬ Occ owner z := by
    unfold Occ
    rw [Array.getD_eq_getD_getElem?, ez']
    simp
  obtain ⟨n, hn, en⟩ := reach hf (bits_lt h) (show z < mask + 1 by rw [← L.size]; exact hz')
  obtain ⟨kk, j, e1, _, e3, e4, e5⟩ := free_spec (mask := mask) (b := bits h) (owner := owner) (turns mask) 0 0 rfl ⟨n, Nat.zero_le _, by unfold turns; omega, by rw [en]; exact hnocc⟩
  have hj : owner[j]? = some none := by
    cases q : owner[j]? with
    | none =>
      refine absurd ?_ e4
      unfold Occ
      rw [Array.getD_eq_getD_getElem?, q]
      rfl
    | some o =>
      cases o with
      | none => rfl
      | some m =>
        refine absurd ?_ e4
        unfold Occ
        rw [Array.getD_eq_getD_getElem?, q]
        rfl
  have hjs : j < owner.size := (Array.getElem?_eq_some_iff.mp hj).1
  have get : ∀ i : Nat, (owner.setIfInBounds j (some k))[i]? = if j = i then some (some k) else owner[i]? := fun i => by
    rw [Array.getElem?_setIfInBounds]
    by_cases q : j = i
    · subst q; simp [hjs]
    · simp [q]
  have occ' : ∀ i, Occ owner i → Occ (owner.setIfInBounds j (some k)) i := fun i q => by
    unfold Occ at q ⊢
    rw [Array.getD_eq_getD_getElem?] at q ⊢
    rw [get]
    by_cases z : j = i
    · rw [if_pos z]; rfl
    · rw [if_neg z]; exact q
  refine ⟨j, e1, ⟨by rw [Array.size_setIfInBounds]; exact L.size, ?_, fun i m hm => ?_, fun m hm => ?_, fun i m h' hm hh' => ?_⟩⟩
  · have c := countP_set owner.toList j k (by rw [Array.getElem?_toList]; exact hj)
    have e : (owner.setIfInBounds j (some k)).toList = owner.toList.set j (some k) := by simp
    rw [e]
    have := L.cnt
    omega
  · rw [get] at hm
    by_cases q : j = i
    · rw [if_pos q] at hm; cases hm; omega
    · rw [if_neg q] at hm; have := L.lt i m hm; omega
  · by_cases q : m = k
    · exact ⟨j, by rw [get, if_pos rfl, q]⟩
    · obtain ⟨i, hi⟩ := L.has m (by omega)
      refine ⟨i, ?_⟩
      rw [get, if_neg (fun z => by subst z; rw [hj] at hi; cases hi)]
      exact hi
  · rw [get] at hm
    by_cases q : j = i
    · rw [if_pos q] at hm
      cases hm
      rw [hh] at hh'
      cases hh'
      exact ⟨kk, by rw [e3, q], fun k' hk' => occ' _ (e5 k' (Nat.zero_le _) hk')⟩
    · rw [if_neg q] at hm
      obtain ⟨k2, a1, a2⟩ := L.path i m h' hm hh'
      exact ⟨k2, a1, fun k' hk' => occ' _ (a2 k' hk')⟩
theorem lay_fold {mask : Nat} (hf : fullB mask = true) (hs : List Int) : ∀ (l : List Int) (owner : Array (Option Nat)) (k : Nat), hs.drop k = l → k + l.length ≤ mask → LayOk mask hs owner k →
    ∃ owner', l.foldl (fun acc h => do
      let (owner, k) ← acc
      let j ← layClean.free mask owner (turns mask) (bits h % (mask + 1)) (bits h)
      pure (owner.setIfInBounds j (some k), k + 1)) (some (owner, k)) = some (owner', k + l.length) ∧ LayOk mask hs owner' (k + l.length)
  | [], owner, k, _, _, L => ⟨owner, rfl, L⟩
  | h :: l, owner, k, hd, hl, L => by
    rw [List.length_cons] at hl
    have hk : hs[k]? = some h := by
      have := congrArg (fun x => x[0]?) hd
      simpa using this
    obtain ⟨j, e1, L'⟩ := lay_step hf L hk (by omega)
    have hd' : hs.drop (k + 1) = l := by
      have := congrArg List.tail hd
      simpa using this
    obtain ⟨o2, e2, L2⟩ := lay_fold hf hs l (owner.setIfInBounds j (some k)) (k + 1) hd' (by omega) L'
    refine ⟨o2, ?_, by rw [List.length_cons, show k + (l.length + 1) = k + 1 + l.length by omega]; exact L2⟩
    rw [List.foldl_cons, List.length_cons, show k + (l.length + 1) = k + 1 + l.length by omega, ← e2]
    congr 1
    show (Option.bind (layClean.free mask owner (turns mask) (bits h % (mask + 1)) (bits h)) fun j => some (owner.setIfInBounds j (some k), k + 1)) = _
    rw [e1]
    rfl
theorem lay_ok {mask : Nat} (hf : fullB mask = true) (hs : Array Int) (hl : hs.size ≤ mask) : ∃ owner, layClean mask hs = some owner ∧ LayOk mask hs.toList owner hs.size := by
  have L0 : LayOk mask hs.toList (Array.replicate (mask + 1) none) 0 := by
    refine ⟨by simp, by simp [List.countP_replicate], fun j m h => ?_, fun m h => absurd h (Nat.not_lt_zero _), fun j m h q => ?_⟩
    · rw [Array.getElem?_replicate] at h
      split at h <;> cases h
    · rw [Array.getElem?_replicate] at q
      split at q <;> cases q
  obtain ⟨o, e, L⟩ := lay_fold hf hs.toList hs.toList _ 0 rfl (by simpa using hl) L0
  refine ⟨o, ?_, by simpa using L⟩
  unfold layClean
  rw [← Array.foldl_toList, e]
  rfl
def liveL (mask : Nat) (owner : Array (Option Nat)) : List (Nat × Nat) := (List.range (mask + 1)).filterMap fun j => (owner.getD j none).map (j, ·)
theorem mem_live {mask : Nat} {owner : Array (Option Nat)} {p : Nat × Nat} : p ∈ liveL mask owner ↔ p.1 < mask + 1 ∧ owner[p.1]? = some (some p.2) := by
  unfold liveL
  rw [List.mem_filterMap]
  constructor
  · rintro ⟨j, hj, e⟩
    rw [Array.getD_eq_getD_getElem?] at e
    cases q : owner[j]? with
    | none => rw [q] at e; cases e
    | some o =>
      rw [q] at e
      cases o with
      | none => cases e
      | some m =>
        have e' : (j, m) = p := Option.some.inj e
        subst e'
        exact ⟨List.mem_range.mp hj, q⟩
  · rintro ⟨h1, h2⟩
    refine ⟨p.1, List.mem_range.mpr h1, ?_⟩
    rw [Array.getD_eq_getD_getElem?, h2]
    rfl
theorem live_rise (mask : Nat) (owner : Array (Option Nat)) : (liveL mask owner).Pairwise fun p q => p.1 < q.1 := by
  unfold liveL
  rw [List.pairwise_filterMap]
  refine List.Pairwise.imp (fun {a b} hab => ?_) List.pairwise_lt_range
  intro p hp q hq
  have e1 : p.1 = a := by
    cases z : owner.getD a none with
    | none => rw [z] at hp; cases hp
    | some m => rw [z] at hp; have := Option.some.inj hp; rw [← this]
  have e2 : q.1 = b := by
    cases z : owner.getD b none with
    | none => rw [z] at hq; cases hq
    | some m => rw [z] at hq; have := Option.some.inj hq; rw [← this]
  rw [e1, e2]
  exact hab
theorem countP_not (l : List (Option Nat)) : l.countP (·.isNone) + l.countP (·.isSome) = l.length := by
  induction l with
  | nil => rfl
  | cons a l ih =>
    simp only [List.countP_cons, List.length_cons]
    cases a with
    | none => simp; omega
    | some m => simp; omega
theorem fm_len (f : Nat → Option Nat) : ∀ l : List Nat, (l.filterMap fun j => (f j).map (j, ·)).length = (l.map f).countP (·.isSome)
  | [] => rfl
  | a :: l => by
    have ih := fm_len f l
    rw [List.filterMap_cons, List.map_cons, List.countP_cons]
    cases q : f a with
    | none => simpa using ih
    | some m => simpa using ih
theorem live_len {mask k : Nat} {hs : List Int} {owner : Array (Option Nat)} (L : LayOk mask hs owner k) : (liveL mask owner).length = k := by
  unfold liveL
  rw [fm_len]
  have e : (List.range (mask + 1)).map (fun j => owner.getD j none) = owner.toList := by
    refine List.ext_getElem? fun i => ?_
    rw [List.getElem?_map]
    by_cases hi : i < mask + 1
    · rw [List.getElem?_range hi]
      have hi' : i < owner.size := by rw [L.size]; exact hi
      simp [Array.getD, hi']
    · have h1 : (List.range (mask + 1))[i]? = none := List.getElem?_eq_none (by rw [List.length_range]; omega)
      have h2 : owner.toList[i]? = none := List.getElem?_eq_none (by rw [Array.length_toList, L.size]; omega)
      rw [h1, h2]
      rfl
  rw [e]
  have c := countP_not owner.toList
  have := L.cnt
  rw [Array.length_toList, L.size] at c
  omega
theorem fm_all {es : Array (Int × Value)} : ∀ l : List Nat, (∀ m ∈ l, m < es.size) → ∀ i : Nat, (l.filterMap (es[·]?))[i]? = (l[i]?).bind (es[·]?)
  | [], _, i => by simp
  | m :: l, h, i => by
    have hm := h m (.head _)
    have ih := fm_all l fun x hx => h x (.tail _ hx)
    rw [List.filterMap_cons]
    have e : es[m]? = some es[m] := by simp [hm]
    rw [e]
    cases i with
    | zero => simp [e]
    | succ i => simpa using ih i
theorem fm_size {es : Array (Int × Value)} : ∀ l : List Nat, (∀ m ∈ l, m < es.size) → (l.filterMap (es[·]?)).length = l.length
  | [], _ => rfl
  | m :: l, h => by
    have hm := h m (.head _)
    have ih := fm_size l fun x hx => h x (.tail _ hx)
    rw [List.filterMap_cons]
    have e : es[m]? = some es[m] := by simp [hm]
    rw [e]
    simp [ih]
theorem stk_in (mask b : Nat) : ∀ k, (stk mask b k).j + (stk mask b k).more ≤ mask ∧ (stk mask b k).i < mask + 1
  | 0 => by
    have h := Nat.mod_lt b (show 0 < mask + 1 by omega)
    refine ⟨?_, h⟩
    show b % (mask + 1) + (runEnd mask (b % (mask + 1)) - b % (mask + 1)) ≤ mask
    unfold runEnd
    split <;> omega
  | k + 1 => by
    obtain ⟨h1, h2⟩ := stk_in mask b k
    show (adv mask (stk mask b k)).j + (adv mask (stk mask b k)).more ≤ mask ∧ (adv mask (stk mask b k)).i < mask + 1
    unfold adv
    split
    · exact ⟨by show (stk mask b k).j + 1 + ((stk mask b k).more - 1) ≤ mask; omega, h2⟩
    · have h := Nat.mod_lt ((stk mask b k).i * 5 + 1 + (stk mask b k).perturb / 32) (show 0 < mask + 1 by omega)
      refine ⟨?_, h⟩
      show (leap mask (stk mask b k).i (stk mask b k).perturb).1 + (runEnd mask (leap mask (stk mask b k).i (stk mask b k).perturb).1 - (leap mask (stk mask b k).i (stk mask b k).perturb).1) ≤ mask
      have h' : (leap mask (stk mask b k).i (stk mask b k).perturb).1 < mask + 1 := h
      unfold runEnd
      split <;> omega
theorem posLt (mask b k : Nat) : pos mask b k < mask + 1 := by
  have := (stk_in mask b k).1
  unfold pos
  omega
theorem relaid_ok {t : SetTable} {es : Array (Int × Value)} {wanted : Nat} (hf : fullB (sizeAbove wanted - 1) = true) (ho : (sizeAbove wanted - 1) % 2 = 1) (hl : es.size ≤ sizeAbove wanted - 1) :
    ∃ t' order, t.relaid (es.map (·.1)) wanted = some (t', order) ∧ (order.filterMap (es[·]?)).size = es.size ∧ SetOk t' (order.filterMap (es[·]?)) ∧ t'.mask = sizeAbove wanted - 1 ∧ t'.plain = t.plain ∧ t'.led = t.led ∧ (∀ e, e ∈ (order.filterMap (es[·]?)).toList ↔ e ∈ es.toList) := by
  generalize hmask : sizeAbove wanted - 1 = mask at *
  obtain ⟨owner, e0, L⟩ := lay_ok hf (es.map (·.1)) (by rw [Array.size_map]; exact hl)
  rw [Array.size_map] at L
  have hlen := live_len L
  have mlt : ∀ m ∈ (liveL mask owner).map (·.2), m < es.size := fun m hm => by
    obtain ⟨p, hp, rfl⟩ := List.mem_map.mp hm
    exact L.lt _ _ (mem_live.mp hp).2
  refine ⟨{ mask := mask, place := ((liveL mask owner).map (·.1)).toArray, dummies := #[], finger := t.finger, led := t.led, moves := t.movedTo mask, plain := t.plain }, ((liveL mask owner).map (·.2)).toArray, ?_, ?_, ?_, rfl, rfl, rfl, fun e => ?_⟩
  · unfold SetTable.relaid SetTable.laid
    rw [hmask, e0]
    rfl
  · rw [List.filterMap_toArray, List.size_toArray, fm_size _ mlt, List.length_map, hlen]
  · have pl : ∀ i : Nat, (((liveL mask owner).map (·.1)).toArray)[i]? = ((liveL mask owner)[i]?).map (·.1) := fun i => by rw [List.getElem?_toArray, List.getElem?_map]
    have inPlace : ∀ j, Occ owner j → j < mask + 1 → ∃ i : Nat, (((liveL mask owner).map (·.1)).toArray)[i]? = some j := fun j hj hjm => by
      have hs : j < owner.size := by rw [L.size]; exact hjm
      obtain ⟨m, hm⟩ : ∃ m, owner[j]? = some (some m) := by
        unfold Occ at hj
        rw [Array.getD_eq_getD_getElem?] at hj
        cases q : owner[j]? with
        | none => simp [hs] at q
        | some o =>
          cases o with
          | none => rw [q] at hj; cases hj
          | some m => exact ⟨m, rfl⟩
      obtain ⟨i, hi, ei⟩ := List.getElem_of_mem (mem_live.mpr (show ((j, m) : Nat × Nat).1 < mask + 1 ∧ owner[((j, m) : Nat × Nat).1]? = some (some ((j, m) : Nat × Nat).2) from ⟨hjm, hm⟩))
      exact ⟨i, by rw [pl, List.getElem?_eq_getElem hi, ei]; rfl⟩
    refine ⟨hf, ho, rfl, fun i j hij hj => ?_, fun i v hv => ?_, ?_, fun i v e hv he => ?_⟩
    · have hj' : j < (liveL mask owner).length := by simpa using hj
      have q := List.pairwise_iff_getElem.mp (live_rise mask owner) i j (by omega) hj' hij
      show (((liveL mask owner).map (·.1)).toArray).getD i 0 < (((liveL mask owner).map (·.1)).toArray).getD j 0
      rw [Array.getD_eq_getD_getElem?, Array.getD_eq_getD_getElem?, pl, pl, List.getElem?_eq_getElem hj', List.getElem?_eq_getElem (by omega)]
      exact q
    · have hv' : (((liveL mask owner).map (·.1)).toArray)[i]? = some v := hv
      rw [pl] at hv'
      cases q : (liveL mask owner)[i]? with
      | none => rw [q] at hv'; cases hv'
      | some p =>
        rw [q] at hv'
        have e : p.1 = v := Option.some.inj hv'
        rw [← e]
        exact (mem_live.mp (List.mem_of_getElem? q)).1
    · show (((liveL mask owner).map (·.1)).toArray).size = _
      rw [List.filterMap_toArray, List.size_toArray, List.size_toArray, fm_size _ mlt, List.length_map, List.length_map]
    · have hv' : (((liveL mask owner).map (·.1)).toArray)[i]? = some v := hv
      rw [pl] at hv'
      rw [List.filterMap_toArray, List.getElem?_toArray, fm_all _ mlt, List.getElem?_map] at he
      cases q : (liveL mask owner)[i]? with
      | none => rw [q] at hv'; cases hv'
      | some p =>
        rw [q] at hv' he
        have e1 : p.1 = v := Option.some.inj hv'
        have e2 : es[p.2]? = some e := he
        obtain ⟨pm, po⟩ := mem_live.mp (List.mem_of_getElem? q)
        have eh : (es.map (·.1)).toList[p.2]? = some e.1 := by
          rw [Array.getElem?_toList, Array.getElem?_map, e2]
          rfl
        obtain ⟨kk, a1, a2⟩ := L.path p.1 p.2 e.1 po eh
        refine ⟨kk, by rw [← e1]; exact a1, fun k' hk' => inPlace _ (a2 k' hk') ?_⟩
        exact Classical.byContradiction fun hge => by
          have := a2 k' hk'
          have hp : pos mask (bits e.1) k' < mask + 1 := posLt mask (bits e.1) k'
          exact hge hp
  · rw [List.filterMap_toArray, List.mem_filterMap]
    constructor
    · rintro ⟨m, hm, q⟩
      have := Array.mem_of_getElem? q
      exact Array.mem_toList_iff.mpr this
    · intro he
      obtain ⟨m, hm, em⟩ := List.getElem_of_mem he
      have hm' : m < es.size := by simpa using hm
      obtain ⟨j, hj⟩ := L.has m hm'
      have hjm : j < mask + 1 := by
        rw [← L.size]
        exact (Array.getElem?_eq_some_iff.mp hj).1
      refine ⟨m, List.mem_map.mpr ⟨(j, m), mem_live.mpr ⟨hjm, hj⟩, rfl⟩, ?_⟩
      rw [← em]
      simp
end SetT
set_option Elab.async false
set_option linter.all false
set_option maxRecDepth 100000
set_option maxHeartbeats 4000000
namespace SetT
open PySem PySem.SetTable PySem.Spec PyProof.Rows
variable {prog : Program} {w : World} {N : Addr → Prop} {A : Around} {E : Value → Shared → Prop} {s : Shared}
abbrev IsP (prog : Program) (w : World) (h : Heap) (k : List Int) (b : Addr) : Prop := IsTupleKey (intKind prog w) h k b
abbrev hk (prog : Program) (w : World) (k : List Int) : Int := (tupleKind (intKind prog w)).hash k
def EntK (prog : Program) (w : World) (N : Addr → Prop) (h : Heap) (e : Int × Value) (k : List Int) : Prop := ∃ b, (e.2 = .ref b ∧ N b) ∧ IsP prog w h k b ∧ e.1 = hk prog w k
theorem EntK.inj {h : Heap} {e : Int × Value} {k k' : List Int} (x : EntK prog w N h e k) (y : EntK prog w N h e k') : k = k' := by
  obtain ⟨b, ⟨e1, _⟩, p, _⟩ := x
  obtain ⟨b', ⟨e2, _⟩, p', _⟩ := y
  rw [e1] at e2
  cases e2
  exact p.inj p'
theorem items_int {ks : List Int} {vs : List Value} (h : ItemsAre (intKind prog w) ks vs) : ∀ v ∈ vs, ∃ i t, v = .int i t := by
  induction h with
  | nil => intro v hv; simp at hv
  | @cons k v' ks vs h1 _ ih =>
    intro v hv
    rcases List.mem_cons.mp hv with rfl | hv
    · obtain ⟨t, e⟩ := Value.isInt_shape (k := k) (v := v) h1
      exact ⟨k, t, e⟩
    · exact ih v hv
theorem fits_of {t : SetTable} {es : Array (Int × Value)} (ok : SetOk t es) (room : es.size < t.mask + 1) : t.fits es.size = true := by
  unfold SetTable.fits SetTable.fill
  rw [ok.size, ok.nod]
  simp
  omega
end SetT
set_option Elab.async false
set_option linter.all false
set_option maxRecDepth 100000
set_option maxHeartbeats 4000000
namespace SetT
open PySem PySem.SetTable PySem.Spec PyProof.Rows
variable {prog : Program} {w : World} {N : Addr → Prop} {A : Around} {E : Value → Shared → Prop} {s : Shared}
end SetT
set_option Elab.async false
set_option linter.all false
set_option maxRecDepth 100000
set_option maxHeartbeats 4000000
namespace SetT
open PySem PySem.SetTable PySem.Spec PyProof.Rows
variable {prog : Program} {w : World} {N : Addr → Prop} {A : Around} {E : Value → Shared → Prop} {s : Shared}
def Mk (m : Nat) : Prop := m = 7 ∨ m = 31 ∨ m = 127 ∨ m = 511
theorem Mk.full {m : Nat} (h : Mk m) : fullB m = true ∧ m % 2 = 1 := by
  rcases h with rfl | rfl | rfl | rfl
  · exact ⟨full7, rfl⟩
  · exact ⟨full31, rfl⟩
  · exact ⟨full127, rfl⟩
  · exact ⟨full511, rfl⟩
theorem IsP.same {h h' : Heap} {k : List Int} {a b : Addr} {o : Obj} {es : Array (Int × Value)} {ep : Nat} {t : SetTable} (x : IsP prog w h k b) (ho : h.get? a = some o) (hd : o.data = .set es ep t) (hs : Heap.SameBut a h h') : IsP prog w h' k b := by
  obtain ⟨o', items, n, ho', hc, hd', hi⟩ := x
  have hne : b ≠ a := by
    rintro rfl
    obtain rfl : o' = o := Option.some.inj (ho'.symm.trans ho)
    rw [hd] at hd'; exact nomatch hd'
  exact ⟨o', items, n, (hs.2 b hne).trans ho', hc, hd', hi⟩
theorem EntK.same {h h' : Heap} {e : Int × Value} {k : List Int} {a : Addr} {o : Obj} {es : Array (Int × Value)} {ep : Nat} {t : SetTable} (x : EntK prog w N h e k) (ho : h.get? a = some o) (hd : o.data = .set es ep t) (hs : Heap.SameBut a h h') : EntK prog w N h' e k :=
  let ⟨b, e1, p, e2⟩ := x; ⟨b, e1, p.same ho hd hs, e2⟩
theorem store_at {h : Heap} {a : Addr} {o : Obj} {es es' : Array (Int × Value)} {ep : Nat} {t t' : SetTable} (ho : h.get? a = some o) (hd : o.data = .set es ep t) : (h.update a (Obj.putSet es' t')).get? a = some { o with data := .set es' (ep + 1) t' } := by
  have := Heap.get?_update_self (Obj.putSet es' t') ho (by rw [putSet_of es' t' hd]; rfl)
  rw [putSet_of es' t' hd] at this; exact this
end SetT
set_option Elab.async false
set_option linter.all false
set_option maxRecDepth 100000
set_option maxHeartbeats 4000000
namespace SetT
open PySem PySem.SetTable PySem.Spec PyProof.Rows
def stepK (σ : List (List Int)) (k : List Int) : List (List Int) := if k ∈ σ then σ else σ ++ [k]
def kd (key : Nat → List Int) (i : Nat) : List (List Int) := ((List.range i).map key).foldl stepK []
section
variable {prog : Program} {w : World} {A : Around} {R : Result → Shared → Prop} {I : Addr} {fp wr : List Addr} {G : Array GenState → Array GenState → Prop} {n : Nat} {P : Nat → Value → Prop} {St : Nat → Shared → Prop}
end
variable {prog : Program} {w : World} {A : Around} {E : Value → Shared → Prop} {s : Shared}
end SetT
set_option Elab.async false
set_option linter.all false
set_option maxRecDepth 100000
set_option maxHeartbeats 4000000
namespace L2
open PySem PySem.Spec PyProof.Rows
section
variable {X : Cx}
def rSetN : V → V → V → Hp → (Hp → Prop) → Prop := fun o i v H Q => ∃ p xs, ∃ k : Nat, o = .ref p ∧ i = .int (k : Int) ∧ H p = some (.lst xs) ∧ k < xs.length ∧ Q (upd H p (.lst (xs.set k v)))
theorem set_listN : PSet X rSetN := by
  intro pins s σ H o i v ov iv u Q I ro ri rv h
  obtain ⟨p, xs, k, e1, e2, hp, hk, q⟩ := h
  refine set_list pins s σ H o i v ov iv u Q I ro ri rv ⟨p, xs, k, k, e1, e2, hp, ?_, q⟩
  unfold ixN
  rw [if_pos (Int.natCast_nonneg k), if_pos (by omega), Int.toNat_natCast]
end
end L2
set_option Elab.async false
set_option linter.all false
set_option maxRecDepth 100000
set_option maxHeartbeats 4000000
namespace L2
open PySem PySem.Spec PyProof.Rows
section
variable {X : Cx}
theorem op_fdivL : OpR X (binaryOp .FloorDiv) (rI (fun _ j => 0 < j ∧ j < 4611686018427387904) fun i j => .int (i / j)) := opI fun i j _ _ _ _ _ hc q => by
  have h1 : (0 : Int) < j := hc.1
  have h2 : j < 4611686018427387904 := hc.2
  refine floordiv_int (by omega) (by rw [Int.fdiv_eq_ediv_of_nonneg i (by omega)]; exact q) (.inl (PyProof.noPylong_of_log2 ?_))
  have h3 : j.natAbs < 2 ^ 62 := by omega
  have h4 : j.natAbs ≠ 0 := by omega
  exact Nat.lt_trans ((Nat.log2_lt h4).mpr h3) (by decide)
end
end L2
set_option Elab.async false
set_option linter.all false
set_option maxRecDepth 100000
set_option maxHeartbeats 4000000
namespace SetI
open PySem PySem.Spec PyProof.Rows
section
variable {prog : Program} {w : World} {A : Around} {E : Value → Shared → Prop} {s : Shared}
end
end SetI
set_option Elab.async false
set_option linter.all false
set_option maxRecDepth 100000
set_option maxHeartbeats 4000000
namespace L2
open PySem PySem.Spec PyProof.Rows
section
variable {X : Cx}
theorem ints_of {ns : List Int} : ∀ {us : List Value}, Vals (ns.map V.int) us → IntsAre us ns := by
  induction ns with
  | nil => intro us r; cases r; exact .nil
  | cons k ks ih =>
    intro us r
    cases r with
    | cons h t =>
      obtain ⟨tk, rfl⟩ := h
      exact .cons _ _ (ih t)
end
end L2
set_option Elab.async false
set_option linter.all false
set_option maxRecDepth 100000
set_option maxHeartbeats 4000000
namespace L2
open PySem PySem.Spec PyProof.Rows PySem.SeqAt
def Atom : V → Prop
  | .non => True
  | .bl _ => True
  | .int _ => True
  | .str _ => True
  | _ => False
def Sam (K : PySem.W.Frag) (H : Hp) : Nat → V → V → Prop
  | 0, x, y => x = y ∧ Atom x
  | d + 1, x, y => (x = y ∧ Atom x) ∨ ∃ a b xs ys, x = .ref a ∧ y = .ref b ∧ ((SqT K H a xs ∧ SqT K H b ys) ∨ (SqL K H a xs ∧ SqL K H b ys)) ∧ xs.length = ys.length ∧ ∀ (i : Nat) u v, xs[i]? = some u → ys[i]? = some v → Sam K H d u v
section
variable {X : Cx}
theorem atom_eq {A : Around} {s : Shared} {x : V} {u v : Value} (h : Atom x) (ru : RelV x u) (rv : RelV x v) : EqAt A s u v true := by
  cases x with
  | non => cases (show u = Value.none from ru); cases (show v = Value.none from rv); exact EqAt.same _
  | bl b => cases (show u = Value.bool b from ru); cases (show v = Value.bool b from rv); exact EqAt.same _
  | int i =>
    obtain ⟨t, rfl⟩ := ru
    obtain ⟨t', rfl⟩ := rv
    have e := EqAt.int_int (A := A) (s := s) i t i t'
    rw [beq_self_eq_true] at e
    exact e
  | str i =>
    obtain ⟨t, rfl⟩ := ru
    obtain ⟨t', rfl⟩ := rv
    have e := (eqGives_str i i t t').at A s
    rw [beq_self_eq_true] at e
    exact e
  | _ => exact h.elim
theorem all_true (n : Nat) : (List.range n).all (fun _ => true) = true := by simp
theorem sam_eq {pins : List (Addr × Obj)} {σ : St} {H : Hp} {s : Shared} (I : Inv X pins σ H s) : ∀ (d : Nat) (A : Around) (x y : V) (u v : Value), A.units + d < cLine → Sam X.K H d x y → RelV x u → RelV y v → EqAt A s u v true
  | 0, A, x, y, u, v, hu, h, ru, rv => by
    obtain ⟨rfl, h⟩ := h
    exact atom_eq h ru rv
  | d + 1, A, x, y, u, v, hu, h, ru, rv => by
    rcases h with ⟨rfl, h⟩ | ⟨a, b, xs, ys, rfl, rfl, h, hl, hk⟩
    · exact atom_eq h ru rv
    cases (show u = Value.ref a from ru)
    cases (show v = Value.ref b from rv)
    by_cases hab : a = b
    · subst hab
      exact EqAt.same _
    refine EqAt.of_refs hab ?_
    rcases h with ⟨ha, hb⟩ | ⟨ha, hb⟩
    · obtain ⟨vs, rvs, pa, _⟩ := I.tuple ha
      obtain ⟨ws, rws, pb, _⟩ := I.tuple hb
      have l1 := rvs.length
      have l2 := rws.length
      have e := RcAt.tuples (A := A) (s := s) (e := fun _ => true) pa pb (by omega) (fun j h1 h2 => ?_)
      · rw [all_true] at e
        have : (vs.toArray.size == ws.toArray.size) = true := by simp; omega
        rw [this] at e
        exact e
      · simp only [List.size_toArray] at h1 h2
        obtain ⟨x1, e1, r1⟩ := rvs.get (List.getElem?_eq_getElem (l := xs) (i := j) (by omega))
        obtain ⟨y1, e2, r2⟩ := rws.get (List.getElem?_eq_getElem (l := ys) (i := j) (by omega))
        have g1 : vs[j] = x1 := by rw [List.getElem?_eq_getElem h1] at e1; exact Option.some.inj e1
        have g2 : ws[j] = y1 := by rw [List.getElem?_eq_getElem h2] at e2; exact Option.some.inj e2
        have g := sam_eq I d A.in1 _ _ x1 y1 (by show A.units + 1 + d < cLine; omega) (hk j _ _ (List.getElem?_eq_getElem (by omega)) (List.getElem?_eq_getElem (by omega))) r1 r2
        simp only [List.getElem_toArray, g1, g2]
        exact g
    · obtain ⟨vs, rvs, pa, _⟩ := I.list ha
      obtain ⟨ws, rws, pb, _⟩ := I.list hb
      have l1 := rvs.length
      have l2 := rws.length
      have e := RcAt.lists (A := A) (s := s) (e := fun _ => true) pa.isList pb.isList (by simp; omega) (by omega) (fun j h1 h2 => ?_)
      · rw [all_true] at e
        exact e
      · simp only [List.size_toArray] at h1 h2
        obtain ⟨x1, e1, r1⟩ := rvs.get (List.getElem?_eq_getElem (l := xs) (i := j) (by omega))
        obtain ⟨y1, e2, r2⟩ := rws.get (List.getElem?_eq_getElem (l := ys) (i := j) (by omega))
        have g1 : vs[j] = x1 := by rw [List.getElem?_eq_getElem h1] at e1; exact Option.some.inj e1
        have g2 : ws[j] = y1 := by rw [List.getElem?_eq_getElem h2] at e2; exact Option.some.inj e2
        have g := sam_eq I d A.in1 _ _ x1 y1 (by show A.units + 1 + d < cLine; omega) (hk j _ _ (List.getElem?_eq_getElem (by omega)) (List.getElem?_eq_getElem (by omega))) r1 r2
        simp only [List.getElem_toArray, g1, g2]
        exact g
def rNeD (K : PySem.W.Frag) (b : Bool) : R2 := fun x y H Q => ∃ (p q : Addr) (xs ys : List V), x = .ref p ∧ y = .ref q ∧ ((SqT K H p xs ∧ SqT K H q ys) ∨ (SqL K H p xs ∧ SqL K H q ys)) ∧ xs.length = ys.length ∧ (∀ (i : Nat) u v, xs[i]? = some u → ys[i]? = some v → Sam K H 6 u v) ∧ Q (.bl b) H
theorem sam_items {pins : List (Addr × Obj)} {σ : St} {H : Hp} {s : Shared} (I : Inv X pins σ H s) {A : Around} (hu : A.units + 7 < cLine) {xs ys : List V} {vs ws : List Value} (rvs : Vals xs vs) (rws : Vals ys ws) (hl : xs.length = ys.length)
    (hk : ∀ (i : Nat) u v, xs[i]? = some u → ys[i]? = some v → Sam X.K H 6 u v) (j : Nat) (h1 : j < vs.toArray.size) (h2 : j < ws.toArray.size) : EqAt A.in1 s vs.toArray[j] ws.toArray[j] true := by
  have l1 := rvs.length
  have l2 := rws.length
  simp only [List.size_toArray] at h1 h2
  obtain ⟨x1, e1, r1⟩ := rvs.get (List.getElem?_eq_getElem (l := xs) (i := j) (by omega))
  obtain ⟨y1, e2, r2⟩ := rws.get (List.getElem?_eq_getElem (l := ys) (i := j) (by omega))
  have g1 : vs[j] = x1 := by rw [List.getElem?_eq_getElem h1] at e1; exact Option.some.inj e1
  have g2 : ws[j] = y1 := by rw [List.getElem?_eq_getElem h2] at e2; exact Option.some.inj e2
  have g := sam_eq I 6 A.in1 _ _ x1 y1 (by show A.units + 1 + 6 < cLine; omega) (hk j _ _ (List.getElem?_eq_getElem (by omega)) (List.getElem?_eq_getElem (by omega))) r1 r2
  simp only [List.getElem_toArray, g1, g2]
  exact g
theorem op_neD {k : Nat} (hr : Room k X.A) : OpR X (compareOp .NotEq) (rNeD X.K false) := by
  intro pins s σ H x y v u Q I rx ry h
  obtain ⟨p, q, xs, ys, rfl, rfl, h, hl, hk, hq⟩ := h
  cases (show v = Value.ref p from rx)
  cases (show u = Value.ref q from ry)
  have hun := hr.un
  show wpAny _ _ (richCompare .NotEq (.ref p) (.ref q)) _ _ s
  rcases h with ⟨ha, hb⟩ | ⟨ha, hb⟩
  · obtain ⟨vs, rvs, pa, _⟩ := I.tuple ha
    obtain ⟨ws, rws, pb, _⟩ := I.tuple hb
    have l1 := rvs.length
    have l2 := rws.length
    refine RcNeAt.tuples (A := X.A) (s := s) (e := fun _ => true) pa pb (by omega) (sam_items I (by omega) rvs rws hl hk) _ _ _ _ ?_
    have e2 : (vs.toArray.size == ws.toArray.size) = true := by simp; omega
    rw [all_true, e2]
    exact ⟨.bl _, H, I, rfl, hq⟩
  · obtain ⟨vs, rvs, pa, _⟩ := I.list ha
    obtain ⟨ws, rws, pb, _⟩ := I.list hb
    have l1 := rvs.length
    have l2 := rws.length
    refine RcNeAt.lists (A := X.A) (s := s) (e := fun _ => true) pa.isList pb.isList (by simp; omega) (by omega) (sam_items I (by omega) rvs rws hl hk) _ _ _ _ ?_
    rw [all_true]
    exact ⟨.bl _, H, I, rfl, hq⟩
theorem op_eqD {k : Nat} (hr : Room k X.A) : OpR X (compareOp .Eq) (rNeD X.K true) := by
  intro pins s σ H x y v u Q I rx ry h
  obtain ⟨p, q, xs, ys, rfl, rfl, h, hl, hk, hq⟩ := h
  cases (show v = Value.ref p from rx)
  cases (show u = Value.ref q from ry)
  have hun := hr.un
  show wpAny _ _ (richCompare .Eq (.ref p) (.ref q)) _ _ s
  rcases h with ⟨ha, hb⟩ | ⟨ha, hb⟩
  · obtain ⟨vs, rvs, pa, _⟩ := I.tuple ha
    obtain ⟨ws, rws, pb, _⟩ := I.tuple hb
    have l1 := rvs.length
    have l2 := rws.length
    refine RcAt.tuples (A := X.A) (s := s) (e := fun _ => true) pa pb (by omega) (sam_items I (by omega) rvs rws hl hk) _ _ _ _ ?_
    have e2 : (vs.toArray.size == ws.toArray.size) = true := by simp; omega
    rw [all_true, e2]
    exact ⟨.bl _, H, I, rfl, hq⟩
  · obtain ⟨vs, rvs, pa, _⟩ := I.list ha
    obtain ⟨ws, rws, pb, _⟩ := I.list hb
    have l1 := rvs.length
    have l2 := rws.length
    refine RcAt.lists (A := X.A) (s := s) (e := fun _ => true) pa.isList pb.isList (by simp; omega) (by omega) (sam_items I (by omega) rvs rws hl hk) _ _ _ _ ?_
    rw [all_true]
    exact ⟨.bl _, H, I, rfl, hq⟩
end
end L2
set_option Elab.async false
set_option linter.all false
set_option maxRecDepth 100000
namespace L2
open PySem PySem.Spec PyProof.Rows
section
variable {κ : Type} [DecidableEq κ]
def valV (kvs : List (κ × V)) (k : κ) : Option V := (kvs.find? fun kv => decide (kv.1 = k)).map (·.2)
def putK (kvs : List (κ × V)) (k : κ) (v : V) : List (κ × V) :=
  if (kvs.any fun kv => decide (kv.1 = k)) = true then kvs.map (fun kv => if kv.1 = k then (kv.1, v) else kv) else kvs ++ [(k, v)]
def dropK (kvs : List (κ × V)) (k : κ) : List (κ × V) := kvs.filter fun kv => decide (kv.1 ≠ k)
theorem valV_pos {p : κ × V} {r : List (κ × V)} {k : κ} (e : p.1 = k) : valV (p :: r) k = some p.2 := by simp [valV, List.find?_cons, e]
theorem valV_neg {p : κ × V} {r : List (κ × V)} {k : κ} (e : ¬ p.1 = k) : valV (p :: r) k = valV r k := by simp [valV, List.find?_cons, e]
theorem valV_any (k : κ) : ∀ kvs : List (κ × V), (kvs.any fun kv => decide (kv.1 = k)) = (valV kvs k).isSome
  | [] => rfl
  | p :: r => by
    rw [List.any_cons]
    by_cases e : p.1 = k
    · simp only [valV_pos e, decide_eq_true e, Bool.true_or, Option.isSome_some]
    · rw [valV_neg e, decide_eq_false e, Bool.false_or]; exact valV_any k r
theorem valV_map (k j : κ) (y : V) : ∀ kvs : List (κ × V), valV (kvs.map fun kv => if kv.1 = k then (kv.1, y) else kv) j = (valV kvs j).map fun x => if j = k then y else x
  | [] => rfl
  | p :: r => by
    have ih := valV_map k j y r
    rw [List.map_cons]
    by_cases h : p.1 = k
    · rw [if_pos h]
      by_cases e : p.1 = j
      · rw [valV_pos (p := (p.1, y)) e, valV_pos e, Option.map_some, if_pos (e.symm.trans h)]
      · rw [valV_neg (p := (p.1, y)) e, valV_neg e, ih]
    · rw [if_neg h]
      by_cases e : p.1 = j
      · rw [valV_pos (p := p) e, valV_pos e, Option.map_some, if_neg (fun z => h (e.trans z))]
      · rw [valV_neg (p := p) e, valV_neg e, ih]
theorem valV_snoc (k j : κ) (y : V) : ∀ kvs : List (κ × V), valV kvs k = none → valV (kvs ++ [(k, y)]) j = if j = k then some y else valV kvs j
  | [], _ => by
    by_cases e : k = j
    · rw [if_pos e.symm]; exact valV_pos (p := (k, y)) e
    · rw [if_neg (fun z => e z.symm)]; exact valV_neg (p := (k, y)) e
  | p :: r, hn => by
    rw [List.cons_append]
    have hk : ¬ p.1 = k := fun z => by rw [valV_pos z] at hn; cases hn
    rw [valV_neg hk] at hn
    have ih := valV_snoc k j y r hn
    by_cases e : p.1 = j
    · rw [valV_pos e, valV_pos e, if_neg (fun z => hk (e.trans z))]
    · rw [valV_neg e, valV_neg e, ih]
theorem valV_put (kvs : List (κ × V)) (k j : κ) (y : V) : valV (putK kvs k y) j = if j = k then some y else valV kvs j := by
  unfold putK
  by_cases a : (kvs.any fun kv => decide (kv.1 = k)) = true
  · rw [if_pos a, valV_map]
    rw [valV_any] at a
    by_cases e : j = k
    · obtain ⟨x, hx⟩ := Option.isSome_iff_exists.mp a
      rw [if_pos e, e, hx, Option.map_some, if_pos rfl]
    · rw [if_neg e]
      cases valV kvs j with
      | none => rfl
      | some x => rw [Option.map_some, if_neg e]
  · rw [if_neg a]
    refine valV_snoc k j y kvs ?_
    rw [valV_any] at a
    cases q : valV kvs k with
    | none => rfl
    | some x => rw [q] at a; exact (a rfl).elim
theorem length_putK (kvs : List (κ × V)) (k : κ) (v : V) : (putK kvs k v).length ≤ kvs.length + 1 := by
  unfold putK
  split
  · rw [List.length_map]; omega
  · rw [List.length_append, List.length_cons, List.length_nil]; omega
theorem putK_new {kvs : List (κ × V)} {k : κ} (v : V) (h : valV kvs k = none) : putK kvs k v = kvs ++ [(k, v)] := by
  unfold putK
  rw [valV_any, h]
  exact if_neg (by decide)
theorem RelO.isSome_eq {o : Option V} {u : Option Value} (r : RelO o u) : o.isSome = u.isSome := by
  cases o with
  | none => cases u with
    | none => rfl
    | some _ => exact (show False from r).elim
  | some _ => cases u with
    | none => exact (show False from r).elim
    | some _ => rfl
theorem RelO.getD {o : Option V} {u : Option Value} {d : V} {d' : Value} (r : RelO o u) (rd : RelV d d') : RelV (o.getD d) (u.getD d') := by
  cases o with
  | none => cases u with
    | none => exact rd
    | some _ => exact (show False from r).elim
  | some _ => cases u with
    | none => exact (show False from r).elim
    | some _ => exact r
theorem KV.val {kvs : List (κ × V)} {vs : List (κ × Value)} (r : KV kvs vs) (k : κ) : RelO (valV kvs k) (valueAt vs k) := by
  unfold KV at r
  induction r with
  | nil => exact True.intro
  | @cons p q ps qs h t ih =>
    obtain ⟨h1, h2⟩ := h
    by_cases e : p.1 = k
    · have e' : q.1 = k := h1.symm.trans e
      have b : valueAt (q :: qs) k = some q.2 := by simp [valueAt, List.find?_cons, e']
      rw [valV_pos e, b]; exact h2
    · have e' : ¬ q.1 = k := fun z => e (h1.trans z)
      have b : valueAt (q :: qs) k = valueAt qs k := by simp [valueAt, List.find?_cons, e']
      rw [valV_neg e, b]; exact ih
theorem KV.any {kvs : List (κ × V)} {vs : List (κ × Value)} (r : KV kvs vs) (k : κ) : (kvs.any fun kv => decide (kv.1 = k)) = vs.any fun kv => decide (kv.1 = k) := by
  unfold KV at r
  induction r with
  | nil => rfl
  | cons h t ih => rw [List.any_cons, List.any_cons, ih, h.1]
theorem KV.repl {kvs : List (κ × V)} {vs : List (κ × Value)} (r : KV kvs vs) (k : κ) {y : V} {u : Value} (ry : RelV y u) :
    KV (kvs.map fun kv => if kv.1 = k then (kv.1, y) else kv) (vs.map fun kv => if kv.1 = k then (kv.1, u) else kv) := by
  unfold KV at r ⊢
  induction r with
  | nil => exact .nil
  | @cons p q ps qs h t ih =>
    rw [List.map_cons, List.map_cons]
    refine .cons ?_ ih
    obtain ⟨h1, h2⟩ := h
    by_cases e : p.1 = k
    · rw [if_pos e, if_pos (h1.symm.trans e)]; exact ⟨h1, ry⟩
    · rw [if_neg e, if_neg (fun z => e (h1.trans z))]; exact ⟨h1, h2⟩
theorem KV.put {kvs : List (κ × V)} {vs : List (κ × Value)} (r : KV kvs vs) (k : κ) {y : V} {u : Value} (ry : RelV y u) : KV (putK kvs k y) (stored vs k u) := by
  unfold putK stored
  rw [r.any k]
  by_cases e : (vs.any fun kv => decide (kv.1 = k)) = true
  · rw [if_pos e, if_pos e]; exact r.repl k ry
  · rw [if_neg e, if_neg e]; exact Paired.snoc r ⟨rfl, ry⟩
theorem KV.drop {kvs : List (κ × V)} {vs : List (κ × Value)} (r : KV kvs vs) (k : κ) : KV (dropK kvs k) (without vs k) := by
  unfold KV at r ⊢
  unfold dropK without
  induction r with
  | nil => exact .nil
  | @cons p q ps qs h t ih =>
    obtain ⟨h1, h2⟩ := h
    rw [List.filter_cons, List.filter_cons]
    by_cases e : p.1 = k
    · have a : ¬ decide (p.1 ≠ k) = true := by simp [e]
      have b : ¬ decide (q.1 ≠ k) = true := by simp [h1.symm.trans e]
      rw [if_neg a, if_neg b]; exact ih
    · have e' : ¬ q.1 = k := fun z => e (h1.trans z)
      have a : decide (p.1 ≠ k) = true := by simp [e]
      have b : decide (q.1 ≠ k) = true := by simp [e']
      rw [if_pos a, if_pos b]; exact .cons ⟨h1, h2⟩ ih
theorem KV.keys {kvs : List (κ × V)} {vs : List (κ × Value)} (r : KV kvs vs) : kvs.map (·.1) = vs.map (·.1) := by
  unfold KV at r
  induction r with
  | nil => rfl
  | cons h t ih => rw [List.map_cons, List.map_cons, ih, h.1]
theorem KV.length {kvs : List (κ × V)} {vs : List (κ × Value)} (r : KV kvs vs) : kvs.length = vs.length := Paired.length r
end
theorem kV_is {P : Program} {w : World} {k : Key} {u : Value} (r : RelV (kV k) u) : (mixKind P w).is k u = true := by
  cases k with
  | inl i => obtain ⟨t, e⟩ := (show ∃ t, u = Value.int i t from r); subst e; exact mixKind_int P w i t
  | inr x => obtain ⟨t, e⟩ := (show ∃ t, u = Value.str x t from r); subst e; exact mixKind_str P w x t
theorem items_are {P : Program} {w : World} : ∀ {ks : List Key} {us : List Value}, Vals (ks.map kV) us → ItemsAre (mixKind P w) ks us
  | [], _, r => by rw [List.map_nil] at r; cases r; exact .nil
  | k :: ks, _, r => by
    rw [List.map_cons] at r
    cases r with
    | cons h t => exact .cons (kV_is h) (items_are t)
abbrev KT (H : Hp) : List (List Key × V) → List (List Key × Addr × Value) → Prop := Paired fun p q => p.1 = q.1 ∧ H q.2.1 = some (.tup (p.1.map kV)) ∧ RelV p.2 q.2.2
theorem KT.val {H : Hp} {kvs : List (List Key × V)} {xs : List (List Key × Addr × Value)} (r : KT H kvs xs) (k : List Key) : RelO (valV kvs k) ((atKey xs k).map (·.2)) := by
  induction r with
  | nil => exact True.intro
  | @cons p q ps qs h t ih =>
    obtain ⟨h1, _, h2⟩ := h
    by_cases e : p.1 = k
    · have e' : q.1 = k := h1.symm.trans e
      have b : atKey (q :: qs) k = some q.2 := by simp [atKey, List.find?_cons, e']
      rw [valV_pos e, b]; exact h2
    · have e' : ¬ q.1 = k := fun z => e (h1.trans z)
      have b : atKey (q :: qs) k = atKey qs k := by simp [atKey, List.find?_cons, e']
      rw [valV_neg e, b]; exact ih
theorem KT.repl {H : Hp} {kvs : List (List Key × V)} {xs : List (List Key × Addr × Value)} (r : KT H kvs xs) (k : List Key) {y : V} {u : Value} (ry : RelV y u) :
    KT H (kvs.map fun kv => if kv.1 = k then (kv.1, y) else kv) (xs.map (putAt k u)) := by
  induction r with
  | nil => exact .nil
  | @cons p q ps qs h t ih =>
    rw [List.map_cons, List.map_cons]
    refine .cons ?_ ih
    obtain ⟨h1, h2, h3⟩ := h
    unfold putAt
    by_cases e : p.1 = k
    · rw [if_pos e, if_pos (h1.symm.trans e)]; exact ⟨h1, h2, ry⟩
    · rw [if_neg e, if_neg (fun z => e (h1.trans z))]; exact ⟨h1, h2, h3⟩
theorem KT.put {H : Hp} {kvs : List (List Key × V)} {xs : List (List Key × Addr × Value)} (r : KT H kvs xs) (k : List Key) {b : Addr} {y : V} {u : Value} (hb : H b = some (.tup (k.map kV))) (ry : RelV y u) :
    KT H (putK kvs k y) (storedH xs k b u) := by
  have e : (kvs.any fun kv => decide (kv.1 = k)) = (atKey xs k).isSome := by
    rw [valV_any, (r.val k).isSome_eq, Option.isSome_map]
  unfold putK storedH
  rw [e]
  by_cases q : (atKey xs k).isSome = true
  · rw [if_pos q, if_pos q]; exact r.repl k ry
  · rw [if_neg q, if_neg q]; exact Paired.snoc r ⟨rfl, hb, ry⟩
theorem KT.keeps {H H' : Hp} {kvs : List (List Key × V)} {xs : List (List Key × Addr × Value)} (r : KT H kvs xs) (ht : ∀ b ys, H b = some (.tup ys) → H' b = some (.tup ys)) : KT H' kvs xs :=
  Paired.mapP r fun _ _ z => ⟨z.1, ht _ _ z.2.1, z.2.2⟩
section
variable {P : Program} {w : World} {H : Hp} {h : Heap} {a : Addr}
theorem rd_of {u : HO} (ok : HOk P w H h) (e : Rd H a u) : ObjOk P w H h a u := e.ok ok
theorem dk_rd {kvs : List (Key × V)} (ok : HOk P w H h) (e : Rd H a (.dK kvs)) : kvs.length ≤ sizeLine ∧ (a == sysModules) = false ∧ ∃ vs, KV kvs vs ∧ h.DictOf (mixKind P w) a vs :=
  show ObjOk P w H h a (.dK kvs) from rd_of ok e
theorem dk_of {kvs : List (Key × V)} (ok : HOk P w H h) (e : H a = some (.dK kvs)) : kvs.length ≤ sizeLine ∧ (a == sysModules) = false ∧ ∃ vs, KV kvs vs ∧ h.DictOf (mixKind P w) a vs := dk_rd ok (.inl e)
theorem key_of {ks : List Key} (ok : HOk P w H h) (e : H a = some (.tup (ks.map kV))) : (tupleKind (mixKind P w)).is h ks a := by
  obtain ⟨_, its, r, o, h1, h2, n, h3⟩ := (show ObjOk P w H h a (.tup (ks.map kV)) from ok a _ e)
  exact ⟨o, its.toArray, n, h1, h2, h3, by simpa using items_are r⟩
theorem dt_rd {kvs : List (List Key × V)} (ok : HOk P w H h) (e : Rd H a (.dT kvs)) : kvs.length ≤ sizeLine ∧ (a == sysModules) = false ∧
    ∃ xs, KT H kvs xs ∧ h.DictOfH (tupleKind (mixKind P w)) a xs := by
  obtain ⟨z, y, xs, r, o, es, ep, h1, h2, h3, h4, h5⟩ := (show ObjOk P w H h a (.dT kvs) from rd_of ok e)
  refine ⟨z, y, xs, r, o, es, ep, h1, h2, h3, h4, fun x hx => ?_, h5⟩
  have all : ∀ {l : List (List Key × V)} {m : List (List Key × Addr × Value)}, KT H l m → ∀ x ∈ m, (tupleKind (mixKind P w)).is h x.1 x.2.1 := by
    intro l m q
    induction q with
    | nil => intro x hx; exact nomatch hx
    | @cons p q ps qs hq t ih =>
      intro x hx
      rcases List.mem_cons.mp hx with e | hx
      · subst e
        exact key_of ok (by rw [← hq.1]; exact hq.2.1)
      · exact ih x hx
  exact all r x hx
theorem dt_of {kvs : List (List Key × V)} (ok : HOk P w H h) (e : H a = some (.dT kvs)) : kvs.length ≤ sizeLine ∧ (a == sysModules) = false ∧
    ∃ xs, KT H kvs xs ∧ h.DictOfH (tupleKind (mixKind P w)) a xs := dt_rd ok (.inl e)
end
def DGet (H : Hp) (a : Addr) (y : V) (r : Option V) : Prop :=
  (∃ kvs k, Rd H a (.dK kvs) ∧ y = kV k ∧ r = valV kvs k) ∨ ∃ kvs k b, Rd H a (.dT kvs) ∧ y = .ref b ∧ H b = some (.tup (k.map kV)) ∧ r = valV kvs k
def DPut (H : Hp) (a : Addr) (y v : V) (H' : Hp) : Prop :=
  (∃ kvs k, H a = some (.dK kvs) ∧ y = kV k ∧ kvs.length < sizeLine ∧ H' = upd H a (.dK (putK kvs k v))) ∨
  ∃ kvs k b, H a = some (.dT kvs) ∧ y = .ref b ∧ H b = some (.tup (k.map kV)) ∧ kvs.length < sizeLine ∧ H' = upd H a (.dT (putK kvs k v))
theorem DGet.k {H : Hp} {a : Addr} {kvs : List (Key × V)} {k : Key} (e : H a = some (.dK kvs)) : DGet H a (kV k) (valV kvs k) := .inl ⟨kvs, k, .inl e, rfl, rfl⟩
theorem DGet.t {H : Hp} {a b : Addr} {kvs : List (List Key × V)} {k : List Key} (e : H a = some (.dT kvs)) (eb : H b = some (.tup (k.map kV))) : DGet H a (.ref b) (valV kvs k) := .inr ⟨kvs, k, b, .inl e, rfl, eb, rfl⟩
theorem DPut.k {H : Hp} {a : Addr} {kvs : List (Key × V)} {k : Key} {v : V} (e : H a = some (.dK kvs)) (hl : kvs.length < sizeLine) : DPut H a (kV k) v (upd H a (.dK (putK kvs k v))) := .inl ⟨kvs, k, e, rfl, hl, rfl⟩
theorem DPut.t {H : Hp} {a b : Addr} {kvs : List (List Key × V)} {k : List Key} {v : V} (e : H a = some (.dT kvs)) (eb : H b = some (.tup (k.map kV))) (hl : kvs.length < sizeLine) :
    DPut H a (.ref b) v (upd H a (.dT (putK kvs k v))) := .inr ⟨kvs, k, b, e, rfl, eb, hl, rfl⟩
section
variable {X : Cx} {pins : List (Addr × Obj)} {σ : St} {H : Hp} {s : Shared} {a : Addr} {y v : V} {u r : Value} {o : Option V} {A : Around} {E : Value → Shared → Prop}
theorem d_in {Q : Value → Shared → Prop} (hu : A.units + 1 < cLine) (I : Inv X pins σ H s) (g : DGet H a y o) (ry : RelV y u) (h : ∀ s', Inv X pins σ H s' → Q (.bool o.isSome) s') :
    wpAny (model X.prog X.w) A (compareOp .In u (.ref a)) Q E s := by
  rcases g with ⟨kvs, k, e, ey, l⟩ | ⟨kvs, k, b, e, ey, eb, l⟩
  · subst ey
    obtain ⟨z, hd, vs, rel, dd⟩ := dk_rd I.hok e
    refine wpAny_in_of (kV_is ry) hd dd.mapOf ?_
    rw [← (rel.val k).isSome_eq, ← l]
    exact h _ (I.tok _)
  · subst ey
    cases (show u = Value.ref b from ry)
    obtain ⟨z, hd, xs, rel, dd⟩ := dt_rd I.hok e
    refine wpAny_in_heap (tupleKind_room_in1 hu) (key_of I.hok eb) hd dd ?_
    have q := (rel.val k).isSome_eq
    rw [Option.isSome_map] at q
    rw [← q, ← l]
    exact h _ (I.tok _)
theorem d_notIn {Q : Value → Shared → Prop} (hu : A.units + 1 < cLine) (I : Inv X pins σ H s) (g : DGet H a y o) (ry : RelV y u) (h : ∀ s', Inv X pins σ H s' → Q (.bool (!o.isSome)) s') :
    wpAny (model X.prog X.w) A (compareOp .NotIn u (.ref a)) Q E s := by
  rcases g with ⟨kvs, k, e, ey, l⟩ | ⟨kvs, k, b, e, ey, eb, l⟩
  · subst ey
    obtain ⟨z, hd, vs, rel, dd⟩ := dk_rd I.hok e
    refine wpAny_notIn_of (kV_is ry) hd dd.mapOf ?_
    rw [← (rel.val k).isSome_eq, ← l]
    exact h _ (I.tok _)
  · subst ey
    cases (show u = Value.ref b from ry)
    obtain ⟨z, hd, xs, rel, dd⟩ := dt_rd I.hok e
    refine wpAny_notIn_heap (tupleKind_room_in1 hu) (key_of I.hok eb) hd dd ?_
    have q := (rel.val k).isSome_eq
    rw [Option.isSome_map] at q
    rw [← q, ← l]
    exact h _ (I.tok _)
theorem d_write {h' : Heap} {t' : Nat} {ob : HO} (I : Inv X pins σ H s) (mu : Mut (H a)) (hs : Heap.SameBut a s.heap h') (he : ∃ q, h'.get? a = some q) (new : ObjOk X.prog X.w (upd H a ob) h' a ob) :
    Inv X pins σ (upd H a ob) { s with heap := h', toks := t' } :=
  I.write (x := a) (e := a) mu (.inl rfl) (fun b q hb z => (hs.2 b hb).trans z) he new
theorem dk_new {P : Program} {w : World} {H' : Hp} {h' : Heap} {kvs : List (Key × V)} {vs : List (Key × Value)} (z : kvs.length ≤ sizeLine) (hd : (a == sysModules) = false) (rel : KV kvs vs) (dd : h'.DictOf (mixKind P w) a vs) :
    ObjOk P w H' h' a (.dK kvs) := ⟨z, hd, vs, rel, dd⟩
theorem d_setItem {H' : Hp} {Q : Unit → Shared → Prop} (hu : A.units + 1 < cLine) (I : Inv X pins σ H s) (g : DPut H a y v H') (ry : RelV y u) (rv : RelV v r) (h : ∀ s', Inv X pins σ H' s' → Q () s') :
    wpAny (model X.prog X.w) A (setItem (.ref a) u r) Q E s := by
  rcases g with ⟨kvs, k, e, ey, l, eH⟩ | ⟨kvs, k, b, e, ey, eb, l, eH⟩
  · subst ey eH
    obtain ⟨z, hd, vs, rel, dd⟩ := dk_of I.hok e
    have hz : vs.length ≤ sizeLine := by rw [← rel.length]; exact z
    have hl : (putK kvs k v).length ≤ sizeLine := by have := length_putK kvs k v; omega
    refine wpAny_setItem_pairs (hsz := hz) (kV_is ry) dd fun h' dd' hs => h _ ?_
    have he : ∃ q, h'.get? a = some q := let ⟨q, _, _, hq, _⟩ := dd'; ⟨q, hq⟩
    exact d_write I (by rw [e]; exact True.intro) hs he (dk_new hl hd (rel.put k rv) dd')
  · subst ey eH
    cases (show u = Value.ref b from ry)
    obtain ⟨z, hd, xs, rel, dd⟩ := dt_of I.hok e
    have hz : xs.length ≤ sizeLine := by rw [← Paired.length rel]; exact z
    have hl : (putK kvs k v).length ≤ sizeLine := by have := length_putK kvs k v; omega
    refine wpAny_setItem_heap (hsz := hz) (tupleKind_room_in1 hu) (key_of I.hok eb) dd fun h' dd' hs => h _ ?_
    obtain ⟨q, es, ep, hq, h2, h3, h4, _, h5⟩ := dd'
    refine d_write I (by rw [e]; exact True.intro) hs ⟨q, hq⟩ ⟨hl, hd, _, (rel.put k eb rv).keeps fun c ys ec => ?_, q, es, ep, hq, h2, h3, h4, h5⟩
    rw [upd_ne (ne_of ec e (fun z => nomatch z))]
    exact ec
end
section
variable {X : Cx} {pins : List (Addr × Obj)} {σ : St} {H : Hp} {s : Shared} {a : Addr} {kvs : List (Key × V)} {k : Key} {u : Value} {A : Around} {E : Value → Shared → Prop}
end
def tDIn (ty td : TE) : TE := fun σ H Q => ty σ H fun y H1 => td σ H1 fun x H2 => ∃ a o, x = .ref a ∧ DGet H2 a y o ∧ Q (.bl o.isSome) H2
def tDNotIn (ty td : TE) : TE := fun σ H Q => ty σ H fun y H1 => td σ H1 fun x H2 => ∃ a o, x = .ref a ∧ DGet H2 a y o ∧ Q (.bl (!o.isSome)) H2
def sDPut (td ty tv : TE) : TS := fun D σ H => tv σ H fun v H1 => td σ H1 fun x H2 => ty σ H2 fun y H3 => ∃ a H4, x = .ref a ∧ DPut H3 a y v H4 ∧ D.nx σ H4
section
variable {X : Cx} {o i e value : Expr} {pos pos' tpos : Pos} {td ty tv : TE}
theorem pc_din (hu : X.A.units + 1 < cLine) (hi : PE X i ty) (ho : PE X o td) : PC X .In i o (tDIn ty td) := by
  intro pins s σ H Q I h
  refine thn (hi pins s σ H _ I h) fun iv s1 ⟨y, H1, I1, ry, q1⟩ => thn (ho pins s1 σ H1 _ I1 q1) fun u s2 ⟨x, H2, I2, rx, a, ov, ex, g, q2⟩ => ?_
  subst ex
  obtain rfl : u = Value.ref a := rx
  exact d_in hu I2 g ry fun s3 I3 => ⟨.bl ov.isSome, H2, I3, rfl, q2⟩
theorem pc_dnotin (hu : X.A.units + 1 < cLine) (hi : PE X i ty) (ho : PE X o td) : PC X .NotIn i o (tDNotIn ty td) := by
  intro pins s σ H Q I h
  refine thn (hi pins s σ H _ I h) fun iv s1 ⟨y, H1, I1, ry, q1⟩ => thn (ho pins s1 σ H1 _ I1 q1) fun u s2 ⟨x, H2, I2, rx, a, ov, ex, g, q2⟩ => ?_
  subst ex
  obtain rfl : u = Value.ref a := rx
  exact d_notIn hu I2 g ry fun s3 I3 => ⟨.bl (!ov.isSome), H2, I3, rfl, q2⟩
theorem ps_dput (hu : X.A.units + 1 < cLine) (ho : PE X o td) (hi : PE X i ty) (hv : PE X value tv) (hs : swapsWith value (some (.Subscript o i pos')) pos.line X.env = pure false) :
    PS X (.Assign [.Subscript o i pos'] value pos) (sDPut td ty tv) := by
  intro pins s σ H D I h
  refine wpAny_Assign_Subscript (thn (hv pins s σ H _ I h) fun r s1 ⟨v, H1, I1, rv, q1⟩ => thn (ho pins s1 σ H1 _ I1 q1) fun u s2 ⟨x, H2, I2, rx, q2⟩ => thn (hi pins s2 σ H2 _ I2 q2) fun iv s3 ⟨y, H3, I3, ry, a, H4, ex, g, q3⟩ => ?_) hs
  subst ex
  obtain rfl : u = Value.ref a := rx
  exact d_setItem hu I3 g ry rv fun s4 I4 => ⟨σ, H4, I4, q3⟩
end
theorem dt_empty {P : Program} {w : World} {H : Hp} (h : Heap) (hb : sysModules < h.objs.size) : ObjOk P w H (h.push { cls := .type "dict", data := .dict #[] }) h.objs.size (.dT []) :=
  ⟨Nat.zero_le _, beq_eq_false_iff_ne.mpr (Ne.symm (Nat.ne_of_lt hb)), [], .nil, _, #[], 0, Heap.get?_push_size _ rfl, ⟨rfl, rfl, rfl⟩, rfl, rfl, List.nodup_nil⟩
def tDNewT : TE := fun _ H Q => ∀ p, H p = none → Q (.ref p) (upd H p (.dT []))
section
variable {X : Cx} {pos : Pos}
theorem pe_dnewT : PE X (.Dict [] [] pos) tDNewT := fun pins s σ H Q I h =>
  wpAny_Dict_empty ⟨.ref s.heap.objs.size, _, I.laid (a := s.heap.objs.size) (o := .dT []) (t' := s.toks) (fun _ _ q => Heap.get?_push_of_some _ q) (Nat.le_refl _) (dt_empty s.heap I.big), rfl, h _ (I.hok.fresh (Nat.le_refl _))⟩
end
abbrev VV : List (V × V) → List (Value × Value) → Prop := Paired fun p q => RelV p.1 q.1 ∧ RelV p.2 q.2
structure M1 (X : Cx) (o : Expr) (m : Str) (apos : Pos) (e : Expr) (cpos : Pos) : Prop where
  base : attributeBase o m X.env (eval o X.env) = eval o X.env
  few : ((backTo cpos (starEach [e] X.env)).all (fun x => !x.1) && (backToKw cpos (keywordEach [] X.env)).all (fun x => x.1.isSome)
    && decide (([e] : List Expr).length + ([] : List Keyword).length + (if ([] : List Keyword).isEmpty then 0 else 1) < 30)) = true
  line : (apos.endLine == cpos.line) = true
  trees : backTo cpos (starEach [e] X.env) = [(false, eval e X.env)]
structure M2 (X : Cx) (o : Expr) (m : Str) (apos : Pos) (e f : Expr) (cpos : Pos) : Prop where
  base : attributeBase o m X.env (eval o X.env) = eval o X.env
  few : ((backTo cpos (starEach [e, f] X.env)).all (fun x => !x.1) && (backToKw cpos (keywordEach [] X.env)).all (fun x => x.1.isSome)
    && decide (([e, f] : List Expr).length + ([] : List Keyword).length + (if ([] : List Keyword).isEmpty then 0 else 1) < 30)) = true
  line : (apos.endLine == cpos.line) = true
  trees : backTo cpos (starEach [e, f] X.env) = [(false, eval e X.env), (false, eval f X.env)]
def IsD (H : Hp) (a : Addr) : Prop := (∃ kvs, Rd H a (.dK kvs)) ∨ ∃ kvs, Rd H a (.dT kvs)
theorem isD_at {X : Cx} {pins : List (Addr × Obj)} {σ : St} {H : Hp} {s : Shared} {a : Addr} (I : Inv X pins σ H s) (d : IsD H a) :
    s.TypeIs (.ref a) "dict" ∧ (∀ b, Value.ref a = .ref b → ∃ ob, s.heap.get? b = some ob ∧ ob.dict = none) ∧ (a == sysModules) = false := by
  rcases d with ⟨kvs, e⟩ | ⟨kvs, e⟩
  · obtain ⟨_, hd, vs, _, dd⟩ := dk_rd I.hok e
    refine ⟨dd.typeIs, fun b q => ?_, hd⟩
    cases q
    obtain ⟨ob, _, _, h1, h2, _⟩ := dd
    exact ⟨ob, h1, h2.2.1⟩
  · obtain ⟨_, hd, xs, _, dd⟩ := dt_rd I.hok e
    refine ⟨dd.typeIs, fun b q => ?_, hd⟩
    cases q
    obtain ⟨ob, _, _, h1, h2, _⟩ := dd
    exact ⟨ob, h1, h2.2.1⟩
section
variable {X : Cx} {pins : List (Addr × Obj)} {σ : St} {H : Hp} {s : Shared} {a : Addr} {y d : V} {u r : Value} {o : Option V} {A : Around} {E : Value → Shared → Prop}
theorem d_get2 {Q : Value → Shared → Prop} (hu : A.units + 1 < cLine) (I : Inv X pins σ H s) (g : DGet H a y o) (ry : RelV y u) (rd : RelV d r) (h : ∀ w' s', Inv X pins σ H s' → RelV (o.getD d) w' → Q w' s') :
    wpAny (model X.prog X.w) A (call (.builtin "dict.get") [.ref a, u, r]) Q E s := by
  rcases g with ⟨kvs, k, e, ey, l⟩ | ⟨kvs, k, b, e, ey, eb, l⟩
  · subst ey
    obtain ⟨z, hd, vs, rel, dd⟩ := dk_rd I.hok e
    refine call_meetsIn PySem.F.slot_dict_get dd.typeIs PySem.F.entry_dict_get (PySem.F.args_dict_get_3 _ _ _) (meets_dict_get_default (mixKind X.prog X.w) a (kV_is ry) hd r) ⟨_, dd.mapOf, h _ _ (I.tok _) ?_⟩
    rw [l]
    exact (rel.val k).getD rd
  · subst ey
    cases (show u = Value.ref b from ry)
    obtain ⟨z, hd, xs, rel, dd⟩ := dt_rd I.hok e
    refine call_meetsIn PySem.F.slot_dict_get dd.typeIs PySem.F.entry_dict_get (PySem.F.args_dict_get_3 _ _ _) (meetsH_dict_get_default (tupleKind (mixKind X.prog X.w)) a b hd r) ⟨tupleKind_room_in1 hu, k, xs, key_of I.hok eb, dd, h _ _ (I.tok _) ?_⟩
    rw [l]
    exact (rel.val k).getD rd
end
def tDGet2 (td ty tx : TE) : TE := fun σ H Q => td σ H fun x H1 => ∃ a, x = .ref a ∧ IsD H1 a ∧ ty σ H1 fun y H2 => tx σ H2 fun z H3 => ∃ o, DGet H3 a y o ∧ Q (o.getD z) H3
section
variable {X : Cx} {o e f : Expr} {apos cpos : Pos} {td ty tx : TE}
theorem pe_dget2 (hu : X.A.units + 1 < cLine) (ho : PE X o td) (he : PE X e ty) (hf : PE X f tx) (m : M2 X o "get" apos e f cpos) : PE X (.Call (.Attribute o "get" apos) [e, f] [] cpos) (tDGet2 td ty tx) := by
  intro pins s σ H Q I h
  refine wpAny_Call_method m.base m.few m.line PySem.F.plainAttrs_dict PySem.F.slot_dict_get PySem.F.type_dict_get (thn (ho pins s σ H _ I h) fun u s1 ⟨x, H1, I1, rx, a, ex, d, q1⟩ => ?_)
  subst ex
  obtain rfl : u = Value.ref a := rx
  obtain ⟨t1, t2, _⟩ := isD_at I1 d
  refine ⟨t1, t2, ?_⟩
  rw [m.trees]
  refine Calls.callWith_builtin rfl (Calls.evalArgs_plain (Calls.spliced_cons (thn (he pins s1 σ H1 _ I1 q1) fun iv s2 ⟨y, H2, I2, ry, q2⟩ =>
    Calls.spliced_cons (thn (hf pins s2 σ H2 _ I2 q2) fun fv s3 ⟨z, H3, I3, rz, ov, g, q3⟩ => Calls.spliced_nil ?_))))
  exact d_get2 hu I3 g ry rz fun w' s4 I4 rw' => ⟨_, H3, I4, rw', q3⟩
end
section
variable {X : Cx} {pins : List (Addr × Obj)} {σ : St} {H : Hp} {s : Shared} {a : Addr} {kvs : List (Key × V)} {A : Around} {E : Value → Shared → Prop}
end
section
variable {X : Cx} {pins : List (Addr × Obj)} {σ : St} {H : Hp} {s : Shared} {a : Addr} {y : V} {u : Value} {A : Around} {E : Value → Shared → Prop}
end
end L2
namespace L2
open PySem PySem.Spec PyProof.Rows
section
variable {X : Cx}
end
section
variable {κ : Type} [DecidableEq κ]
end
end L2
set_option Elab.async false
set_option linter.all false
set_option maxRecDepth 100000
set_option maxHeartbeats 4000000
namespace L2
open PySem PySem.Spec PyProof.Rows PySem.SeqAt
section
variable {prog : Program} {w : World} {A : Around} {E : Value → Shared → Prop} {s : Shared}
end
end L2
set_option Elab.async false
set_option linter.all false
set_option maxRecDepth 100000
set_option maxHeartbeats 4000000
namespace PySem
open Sem (wp)
section
variable {prog : Program} {w : World} {A : Around} {E : Value → Shared → Prop} {s : Shared}
end
end PySem
set_option Elab.async false
set_option linter.all false
set_option maxRecDepth 100000
set_option maxHeartbeats 4000000
namespace DictL
open PySem PySem.Spec PyProof.Rows
theorem entry_loop : entryFor table "dict.update.loop" = some Builtin.«dict.update.loop» := entryFor_of_tree (by kernel_rfl)
theorem plain_loop : plainId "dict.update.loop" = true := by decide +kernel
section
variable {prog : Program} {w : World} {K : Type} [DecidableEq K] {knd : KeyKind prog w K} {A : Around} {R : Result → Shared → Prop} {I : Addr} {fp wr : List Addr} {G : Array GenState → Array GenState → Prop} {n : Nat} {P : Nat → Value → Prop} {St : Nat → Shared → Prop}
def upTo (kv : Nat → K × Value) (i : Nat) : List (K × Value) := ((List.range i).map kv).foldl (fun acc p => stored acc p.1 p.2) []
theorem upTo_succ (kv : Nat → K × Value) (i : Nat) : upTo kv (i + 1) = stored (upTo kv i) (kv i).1 (kv i).2 := by
  unfold upTo; rw [List.range_succ, List.map_append, List.foldl_append]; rfl
theorem stored_len (kvs : List (K × Value)) (k : K) (v : Value) : (stored kvs k v).length ≤ kvs.length + 1 := by
  unfold stored
  split
  · rw [List.length_map]; omega
  · rw [List.length_append]; exact Nat.le_refl _
theorem upTo_len (kv : Nat → K × Value) : ∀ i, (upTo kv i).length ≤ i
  | 0 => Nat.le_refl _
  | i + 1 => by
    rw [upTo_succ]
    have := upTo_len kv i
    have := stored_len (upTo kv i) (kv i).1 (kv i).2
    omega
def PairAt (knd : KeyKind prog w K) (h : Heap) (b : Addr) (p : K × Value) : Prop := ∃ o key m, h.get? b = some o ∧ o.cls = .type "tuple" ∧ o.data = .seq #[key, p.2] m ∧ knd.is p.1 key = true
theorem loop (W : WalksS prog w A.in1 I fp wr G n P St) (D : Addr) (hDf : D ∉ fp) (kv : Nat → K × Value) (hb : n ≤ 1000) :
    ∀ (k i : Nat) (s : Shared), n - i = k → i ≤ n → St i s → (∀ (j : Nat) v, P j v → ∃ b, v = .ref b ∧ PairAt knd s.heap b (kv j) ∧ b ∉ D :: wr) →
      s.heap.DictOf knd D (upTo kv i) →
      (∀ s', Moved (D :: wr) G s s' → s'.heap.DictOf knd D (upTo kv n) → R (.ok (.ret .none)) s') →
      codeAny (model prog w) A (.builtin "dict.update.loop" ⟨[.ref D, .ref I, rawInt i, .none], []⟩) R s := by
  have hDw : D ∉ wr := fun h => hDf (W.sub _ h)
  have hsub : ∀ b ∈ wr, b ∈ D :: wr := fun b hb => List.mem_cons_of_mem _ hb
  have keepD : ∀ {s s' : Shared} {kvs : List (K × Value)}, (∀ b o, b ∉ wr → s.heap.get? b = some o → s'.heap.get? b = some o) → s.heap.DictOf knd D kvs → s'.heap.DictOf knd D kvs := by
    intro s s' kvs hk hS
    obtain ⟨o, es, ep, ho, r⟩ := hS
    exact ⟨o, es, ep, hk D o hDw ho, r⟩
  intro k
  induction k with
  | zero =>
    intro i s hk hi hst hv hS hR
    have hin : i = n := by omega
    subst hin
    refine codeAny_builtin entry_loop ?_
    rw [Around.under_plainId plain_loop _]
    show wpAny _ A.in1 (pyNext (.ref I) >>= _) _ _ s
    refine wpAny_bind (W.done s _ _ hst fun s' hm => ?_)
    show wpAny _ A.in1 (Builtin.Dict.addKeywords D [] >>= _) _ _ s'
    exact wpAny_bind (wpAny_pure (wpAny_pure (hR s' (hm.mono hsub) (keepD hm.heap hS))))
  | succ k ih =>
    intro i s hk hi hst hv hS hR
    have hlt : i < n := by omega
    refine codeAny_builtin entry_loop ?_
    rw [Around.under_plainId plain_loop _]
    show wpAny _ A.in1 (pyNext (.ref I) >>= _) _ _ s
    refine wpAny_bind (W.item i s _ _ hlt hst fun v s' hP hst' hm => ?_)
    obtain ⟨b, rfl, hp, hbn⟩ := hv i v hP
    have hbw : b ∉ wr := fun z => hbn (hsub b z)
    have hS' := keepD hm.heap hS
    obtain ⟨o, key, m, ho, hc, hd, hk'⟩ := hp
    have ho' := hm.heap b o hbw ho
    have hT : s'.TypeIs (.ref b) "tuple" := ⟨o, ho', hc⟩
    show wpAny _ A.in1 (holding [Value.ref b] _ >>= _) _ _ s'
    refine wpAny_bind (wpAny_holding ?_)
    refine wpAny_bind ?_
    refine wpAny_tryCatch ?_
    unfold Builtin.Dict.pairItems
    refine wpAny_bind (wpAny_typeOf hT ?_)
    rw [if_pos (by decide)]
    refine wpAny_bind (wpAny_seqItems ho' hd ?_)
    refine wpAny_pure ?_
    show wpAny _ A.in1 (holding [key, (kv i).2] (dictSet D key (kv i).2)) _ _ s'
    refine wpAny_holding ?_
    have hlen := upTo_len kv i
    refine wpAny_dictSet_pairs (hsz := L2.leMil (by omega)) hk' hS' fun h' hD' hsb => ?_
    rw [← upTo_succ] at hD'
    refine wpAny_pure ⟨plainId_quiet plain_loop _, ?_⟩
    show codeAny _ A (.builtin "dict.update.loop" ⟨[.ref D, .ref I, rawInt ((i + 1 : Nat) : Int), .none], []⟩) R _
    refine ih (i + 1) _ (by omega) hlt (W.frame _ s' _ _ hst' (Nat.le_add_right _ _) fun c hc' o' e => ?_) (fun j v hj => ?_) hD' fun s'' hm'' hS'' => ?_
    · rw [hsb.2 c (fun h : c = D => hDf (by rw [← h]; exact hc'))]; exact e
    · obtain ⟨b2, e2, ⟨ob, key2, m2, h1, h2⟩, hn2⟩ := hv j v hj
      refine ⟨b2, e2, ⟨ob, key2, m2, ?_, h2⟩, hn2⟩
      exact (hsb.2 b2 (fun h : b2 = D => hn2 (by rw [h]; exact List.mem_cons_self))).trans (hm.heap b2 ob (fun z => hn2 (hsub b2 z)) h1)
    · refine hR s'' (Moved.trans W.gtrans ((hm.mono hsub).then_heap (Nat.le_add_right _ _) fun c o' hc' e => ?_) hm'') hS''
      rw [hsb.2 c (fun h : c = D => hc' (by rw [h]; exact List.mem_cons_self))]; exact e
end
section
variable {prog : Program} {w : World} {K : Type} [DecidableEq K] {knd : KeyKind prog w K} {A : Around} {E : Value → Shared → Prop} {s : Shared}
end
end DictL
set_option Elab.async false
set_option linter.all false
set_option maxRecDepth 100000
set_option maxHeartbeats 4000000
namespace L2
open PySem PySem.Spec PyProof.Rows
section
variable {X : Cx}
end
end L2
set_option Elab.async false
set_option linter.all false
set_option maxRecDepth 100000
set_option maxHeartbeats 4000000
namespace L2
open PySem PySem.Spec PyProof.Rows
theorem same_new {H : Hp} {d : Addr} {o : HO} (h : H d = Option.none) : Same H (upd H d o) := fun b u e => by rw [upd_ne (ne_of_none e h)]; exact e
theorem Same.none {H H' : Hp} (s : Same H H') {d : Addr} (h : H' d = Option.none) : H d = Option.none := by
  cases z : H d with
  | none => rfl
  | some o => rw [s d o z] at h; cases h
theorem Same.wr {H H' : Hp} (s : Same H H') {d : Addr} {o : HO} (h : H d = Option.none) : Same H (upd H' d o) := fun b u e => by rw [upd_ne (ne_of_none e h)]; exact s b u e
end L2
namespace My
open PySem L2
theorem bLen : bootBuiltins "len" = some (.builtin "len") := by decide +kernel
theorem bIsi : bootBuiltins "isinstance" = some (.builtin "isinstance") := by decide +kernel
theorem bInt : bootBuiltins "int" = some (.type "int") := by decide +kernel
theorem bBool : bootBuiltins "bool" = some (.type "bool") := by decide +kernel
theorem bTuple : bootBuiltins "tuple" = some (.type "tuple") := by decide +kernel
theorem bList : bootBuiltins "list" = some (.type "list") := by decide +kernel
structure Bi (mg : Str → Option Value) : Prop where
  len : mg "len" = none
  isi : mg "isinstance" = none
  int : mg "int" = none
  bool : mg "bool" = none
  tuple : mg "tuple" = none
  list : mg "list" = none
  range : mg "range" = none
  max : mg "max" = none
  min : mg "min" = none
  zip : mg "zip" = none
  dict : mg "dict" = none
theorem kit (K : PySem.W.Frag) (T U : String) (b : Bool) (h : PySem.W.kitOne [] (.type T) (.type U) = some b) : PySem.W.kitOne K (.type T) (.type U) = some b := h
def TieOk (H : Hp) (n : Int) (t : V) : Prop := ∃ q i j, t = V.ref q ∧ H q = some (.tup [.int i, .int j]) ∧ 0 ≤ i ∧ i < n ∧ 0 ≤ j ∧ j < n ∧ i ≠ j
def Ties (H : Hp) (n : Int) (ts : List V) : Prop := ∀ t ∈ ts, TieOk H n t
theorem TieOk.same {H H' : Hp} {n : Int} {t : V} (h : TieOk H n t) (k : Same H H') : TieOk H' n t := let ⟨q, i, j, a, b, c⟩ := h; ⟨q, i, j, a, k _ _ b, c⟩
theorem Ties.same {H H' : Hp} {n : Int} {ts : List V} (h : Ties H n ts) (k : Same H H') : Ties H' n ts := fun t ht => (h t ht).same k
structure NetZ (H : Hp) (p : Addr) (n : Nat) (q : Addr) (ts : List V) (es : List (Nat × Nat)) : Prop where
  e1 : H p = some (.tup [.int (n : Int), .ref q])
  e2 : H q = some (.tup ts)
  len : ts.length = es.length
  tie : ∀ (i : Nat) t, ts[i]? = some t → ∃ a, t = V.ref a ∧ H a = some (.tup [.int ((es.getD i (0, 0)).1 : Int), .int ((es.getD i (0, 0)).2 : Int)])
  l200 : es.length ≤ 200
  n60 : n ≤ 60
  ok : ∀ e ∈ es, e.1 < n ∧ e.2 < n ∧ e.1 ≠ e.2
theorem NetZ.same {H H' : Hp} {p q : Addr} {n : Nat} {ts : List V} {es : List (Nat × Nat)} (h : NetZ H p n q ts es) (k : Same H H') : NetZ H' p n q ts es :=
  ⟨k _ _ h.e1, k _ _ h.e2, h.len, fun i t e => let ⟨a, x, y⟩ := h.tie i t e; ⟨a, x, k _ _ y⟩, h.l200, h.n60, h.ok⟩
theorem getD_mem {es : List (Nat × Nat)} {k : Nat} (h : k < es.length) : es.getD k (0, 0) ∈ es := by rw [List.getD_eq_getElem?_getD, List.getElem?_eq_getElem h]; exact List.getElem_mem h
theorem NetZ.at' {H : Hp} {p q : Addr} {n : Nat} {ts : List V} {es : List (Nat × Nat)} (h : NetZ H p n q ts es) {k : Nat} (hk : k < es.length) : ∃ a, ts[k]? = some (.ref a) ∧ H a = some (.tup [.int ((es.getD k (0, 0)).1 : Int), .int ((es.getD k (0, 0)).2 : Int)]) := by
  have hk' : k < ts.length := by rw [h.len]; exact hk
  obtain ⟨a, x, y⟩ := h.tie k _ (List.getElem?_eq_getElem hk')
  exact ⟨a, by rw [List.getElem?_eq_getElem hk', x], y⟩
theorem ties_es {H : Hp} {n : Int} : ∀ {ts : List V}, Ties H n ts → ∃ es : List (Nat × Nat), ts.length = es.length ∧ (∀ (i : Nat) t, ts[i]? = some t → ∃ a, t = V.ref a ∧ H a = some (.tup [.int ((es.getD i (0, 0)).1 : Int), .int ((es.getD i (0, 0)).2 : Int)])) ∧ ∀ e ∈ es, (e.1 : Int) < n ∧ (e.2 : Int) < n ∧ e.1 ≠ e.2
  | [], _ => ⟨[], rfl, (fun i t e => by rw [List.getElem?_nil] at e; cases e), fun e h => by cases h⟩
  | t :: ts, h => by
    obtain ⟨es, h1, h2, h3⟩ := ties_es (ts := ts) fun u hu => h u (.tail _ hu)
    obtain ⟨q, i, j, rfl, hq, b1, b2, b3, b4, b5⟩ := h t (.head _)
    refine ⟨(i.toNat, j.toNat) :: es, by rw [List.length_cons, List.length_cons, h1], fun k u e => ?_, fun e he => ?_⟩
    · cases k with
      | zero =>
        rw [List.getElem?_cons_zero] at e
        cases e
        refine ⟨q, rfl, ?_⟩
        show H q = some (.tup [.int ((i.toNat : Nat) : Int), .int ((j.toNat : Nat) : Int)])
        rw [Int.toNat_of_nonneg b1, Int.toNat_of_nonneg b3]
        exact hq
      | succ k =>
        rw [List.getElem?_cons_succ] at e
        obtain ⟨a, x, y⟩ := h2 k u e
        exact ⟨a, x, by rw [y]; rfl⟩
    · cases he with
      | head =>
        show ((i.toNat : Nat) : Int) < n ∧ ((j.toNat : Nat) : Int) < n ∧ i.toNat ≠ j.toNat
        omega
      | tail _ he => exact h3 e he
theorem netZ_of {H : Hp} {p q : Addr} {n m : Int} {ts : List V} (e1 : H p = some (.tup [.int m, .ref q])) (e2 : H q = some (.tup ts)) (l : ts.length ≤ 200) (hT : Ties H n ts) (h0 : 0 ≤ m) (h60 : m ≤ 60) (hnm : n ≤ m) : ∃ es, NetZ H p m.toNat q ts es := by
  obtain ⟨es, h1, h2, h3⟩ := ties_es hT
  exact ⟨es, by rw [Int.toNat_of_nonneg h0]; exact e1, e2, h1, h2, by omega, by omega, fun e he => by obtain ⟨a, b, c⟩ := h3 e he; exact ⟨by omega, by omega, c⟩⟩
def nl (l : List Nat) : List V := l.map fun x : Nat => V.int (x : Int)
theorem nl_get {l : List Nat} {i x : Nat} (h : l[i]? = some x) : (nl l)[i]? = some (.int (x : Int)) := by unfold nl; rw [List.getElem?_map, h]; rfl
theorem nl_len (l : List Nat) : (nl l).length = l.length := by unfold nl; rw [List.length_map]
def tN : Option Nat → V
  | none => .non
  | some t => .int (t : Int)
def tv (tl : List (Option Nat)) : List V := tl.map tN
theorem tv_len (tl : List (Option Nat)) : (tv tl).length = tl.length := by unfold tv; rw [List.length_map]
theorem tv_get {tl : List (Option Nat)} {i : Nat} {o : Option Nat} (h : tl[i]? = some o) : (tv tl)[i]? = some (tN o) := by unfold tv; rw [List.getElem?_map, h]; rfl
theorem tv_inv {tl : List (Option Nat)} {i : Nat} {x : V} (h : (tv tl)[i]? = some x) : ∃ o, tl[i]? = some o ∧ x = tN o := by
  unfold tv at h
  rw [List.getElem?_map] at h
  cases e : tl[i]? with
  | none => rw [e] at h; cases h
  | some o => rw [e] at h; cases h; exact ⟨o, rfl, rfl⟩
end My
set_option Elab.async false
set_option linter.all false
set_option maxRecDepth 100000
set_option maxHeartbeats 4000000
namespace My
open PySem L2
def At (e : Nat × Nat) (p : Nat) : Prop := p = e.1 ∨ p = e.2
def Used (es : List (Nat × Nat)) (tl : List (Option Nat)) (k p t : Nat) : Prop := ∃ j, j < k ∧ tl[j]? = some (some t) ∧ At (es.getD j (0, 0)) p
def CleanTo (es : List (Nat × Nat)) (tl : List (Option Nat)) (k : Nat) : Prop := ∀ i j t, j < i → i < k → tl[i]? = some (some t) → tl[j]? = some (some t) → ∀ p, At (es.getD i (0, 0)) p → ¬ At (es.getD j (0, 0)) p
theorem CleanTo.zero (es : List (Nat × Nat)) (tl : List (Option Nat)) : CleanTo es tl 0 := fun i j t _ h => absurd h (Nat.not_lt_zero _)
theorem Used.zero {es : List (Nat × Nat)} {tl : List (Option Nat)} {p t : Nat} : ¬ Used es tl 0 p t := fun ⟨j, h, _⟩ => absurd h (Nat.not_lt_zero _)
theorem Used.succ {es : List (Nat × Nat)} {tl : List (Option Nat)} {k p t : Nat} : Used es tl (k + 1) p t ↔ Used es tl k p t ∨ (tl[k]? = some (some t) ∧ At (es.getD k (0, 0)) p) := by
  constructor
  · rintro ⟨j, h, a, b⟩
    by_cases e : j = k
    · subst e; exact .inr ⟨a, b⟩
    · exact .inl ⟨j, by omega, a, b⟩
  · rintro (⟨j, h, a, b⟩ | ⟨a, b⟩)
    · exact ⟨j, by omega, a, b⟩
    · exact ⟨k, by omega, a, b⟩
theorem CleanTo.succ {es : List (Nat × Nat)} {tl : List (Option Nat)} {k : Nat} (h : CleanTo es tl k) (hk : ∀ t, tl[k]? = some (some t) → ∀ p, At (es.getD k (0, 0)) p → ¬ Used es tl k p t) : CleanTo es tl (k + 1) := by
  intro i j t hj hi h1 h2 p hp hq
  by_cases e : i = k
  · subst e
    exact hk t h1 p hp ⟨j, hj, h2, hq⟩
  · exact h i j t hj (by omega) h1 h2 p hp hq
theorem CleanTo.not {es : List (Nat × Nat)} {tl : List (Option Nat)} {k p t : Nat} {n : Nat} (hk : k < n) (h1 : tl[k]? = some (some t)) (hp : At (es.getD k (0, 0)) p) (hu : Used es tl k p t) : ¬ CleanTo es tl n := fun h => by
  obtain ⟨j, hj, h2, hq⟩ := hu
  exact h k j t hj hk h1 h2 p hp hq
theorem Used.app {es : List (Nat × Nat)} {tl : List (Option Nat)} {o : Option Nat} {k p t : Nat} (h : k ≤ tl.length) : Used es (tl ++ [o]) k p t ↔ Used es tl k p t := by
  constructor
  · rintro ⟨j, hj, a, b⟩
    exact ⟨j, hj, by rw [List.getElem?_append_left (by omega)] at a; exact a, b⟩
  · rintro ⟨j, hj, a, b⟩
    exact ⟨j, hj, by rw [List.getElem?_append_left (by omega)]; exact a, b⟩
theorem CleanTo.app {es : List (Nat × Nat)} {tl : List (Option Nat)} {o : Option Nat} {k : Nat} (h : k ≤ tl.length) (c : CleanTo es tl k) : CleanTo es (tl ++ [o]) k := by
  intro i j t hj hi h1 h2
  rw [List.getElem?_append_left (by omega)] at h1 h2
  exact c i j t hj hi h1 h2
abbrev ky (a b : Nat) : List Key := [Sum.inl (a : Int), Sum.inl (b : Int)]
theorem ky_inj {a b c d : Nat} (h : ky a b = ky c d) : a = c ∧ b = d := by
  have h1 := List.cons.inj h
  have h2 := List.cons.inj h1.2
  have e1 := Sum.inl.inj h1.1
  have e2 := Sum.inl.inj h2.1
  omega
def Keys (kvs : List (List Key × V)) (R : Nat → Nat → Prop) : Prop := ∀ p t : Nat, (valV kvs (ky p t)).isSome = true ↔ R p t
theorem Keys.put {kvs : List (List Key × V)} {R : Nat → Nat → Prop} (h : Keys kvs R) (a b : Nat) (v : V) : Keys (putK kvs (ky a b) v) (fun p t => R p t ∨ (p = a ∧ t = b)) := by
  intro p t
  rw [valV_put]
  by_cases e : ky p t = ky a b
  · rw [if_pos e]
    exact ⟨fun _ => .inr (ky_inj e), fun _ => rfl⟩
  · rw [if_neg e, h p t]
    exact ⟨.inl, fun z => z.elim id fun ⟨z1, z2⟩ => absurd (by rw [z1, z2]) e⟩
theorem Keys.iff {kvs : List (List Key × V)} {R S : Nat → Nat → Prop} (h : Keys kvs R) (e : ∀ p t, R p t ↔ S p t) : Keys kvs S := fun p t => (h p t).trans (e p t)
end My
set_option Elab.async false
set_option linter.all false
set_option maxRecDepth 100000
set_option maxHeartbeats 4000000
namespace My
open PySem L2
def put {α : Type} (f : Nat → α) (k : Nat) (v : α) : Nat → α := fun i => if i = k then v else f i
def cnt (tl : List (Option Nat)) (t : Nat) : Nat := tl.count (some t)
end My
set_option Elab.async false
set_option linter.all false
set_option maxRecDepth 100000
set_option maxHeartbeats 4000000
namespace My
def InP (tl : List (Option Nat)) (u v k : Nat) : Prop := tl[k]? = some (some u) ∨ tl[k]? = some (some v)
inductive RP (es : List (Nat × Nat)) (tl : List (Option Nat)) (u v p : Nat) : Nat → Prop
  | start : RP es tl u v p p
  | step {x y k : Nat} : RP es tl u v p x → k < es.length → InP tl u v k → At (es.getD k (0, 0)) x → At (es.getD k (0, 0)) y → RP es tl u v p y
def RT (es : List (Nat × Nat)) (tl : List (Option Nat)) (u v p k : Nat) : Prop := k < es.length ∧ InP tl u v k ∧ ∃ x, RP es tl u v p x ∧ At (es.getD k (0, 0)) x
theorem InP.comm {tl : List (Option Nat)} {u v k : Nat} : InP tl u v k ↔ InP tl v u k := ⟨Or.symm, Or.symm⟩
theorem RP.comm {es : List (Nat × Nat)} {tl : List (Option Nat)} {u v p x : Nat} (h : RP es tl u v p x) : RP es tl v u p x := by
  induction h with
  | start => exact .start
  | step _ h1 h2 h3 h4 ih => exact .step ih h1 (InP.comm.mp h2) h3 h4
theorem RT.comm {es : List (Nat × Nat)} {tl : List (Option Nat)} {u v p k : Nat} : RT es tl u v p k ↔ RT es tl v u p k :=
  ⟨fun ⟨a, b, x, c, d⟩ => ⟨a, InP.comm.mp b, x, c.comm, d⟩, fun ⟨a, b, x, c, d⟩ => ⟨a, InP.comm.mp b, x, c.comm, d⟩⟩
theorem RT.end {es : List (Nat × Nat)} {tl : List (Option Nat)} {u v p k y : Nat} (h : RT es tl u v p k) (hy : At (es.getD k (0, 0)) y) : RP es tl u v p y := let ⟨a, b, x, c, d⟩ := h; .step c a b d hy
structure Walk (es : List (Nat × Nat)) (tl : List (Option Nat)) (u v p : Nat) (F : Nat → Prop) (V W : Nat → Prop) : Prop where
  rt : ∀ k, F k → RT es tl u v p k
  rw : ∀ x, W x → RP es tl u v p x
  cl : ∀ x, V x → ∀ k, k < es.length → InP tl u v k → At (es.getD k (0, 0)) x → F k
  en : ∀ k, F k → ∀ x, At (es.getD k (0, 0)) x → V x ∨ W x
  st : V p ∨ W p
theorem Walk.done {es : List (Nat × Nat)} {tl : List (Option Nat)} {u v p : Nat} {F V W : Nat → Prop} (h : Walk es tl u v p F V W) (hW : ∀ x, ¬ W x) : ∀ k, F k ↔ RT es tl u v p k := by
  have hV : ∀ x, RP es tl u v p x → V x := fun x hx => by
    induction hx with
    | start => exact h.st.resolve_right (hW _)
    | step _ h1 h2 h3 h4 ih => exact (h.en _ (h.cl _ ih _ h1 h2 h3) _ h4).resolve_right (hW _)
  exact fun k => ⟨h.rt k, fun ⟨a, b, x, c, d⟩ => h.cl x (hV x c) k a b d⟩
theorem rising_ext : ∀ {a b : List Nat}, a.Pairwise (· < ·) → b.Pairwise (· < ·) → (∀ x, x ∈ a ↔ x ∈ b) → a = b
  | [], [], _, _, _ => rfl
  | [], y :: b, _, _, h => by have := (h y).mpr (.head _); cases this
  | x :: a, [], _, _, h => by have := (h x).mp (.head _); cases this
  | x :: a, y :: b, ha, hb, h => by
    have ha' := List.pairwise_cons.mp ha
    have hb' := List.pairwise_cons.mp hb
    have e : x = y := by
      have h1 := (h x).mp (.head _)
      have h2 := (h y).mpr (.head _)
      rcases List.mem_cons.mp h1 with z | z
      · exact z
      · rcases List.mem_cons.mp h2 with z2 | z2
        · exact z2.symm
        · have := hb'.1 x z
          have := ha'.1 y z2
          omega
    subst e
    congr 1
    refine rising_ext ha'.2 hb'.2 fun z => ?_
    constructor
    · intro hz
      rcases List.mem_cons.mp ((h z).mp (.tail _ hz)) with q | q
      · subst q; exact absurd (ha'.1 z hz) (Nat.lt_irrefl _)
      · exact q
    · intro hz
      rcases List.mem_cons.mp ((h z).mpr (.tail _ hz)) with q | q
      · subst q; exact absurd (hb'.1 z hz) (Nat.lt_irrefl _)
      · exact q
def deg (es : List (Nat × Nat)) : List Nat → Nat → Nat
  | [], _ => 0
  | k :: l, x => (if (es.getD k (0, 0)).1 = x then 1 else 0) + (if (es.getD k (0, 0)).2 = x then 1 else 0) + deg es l x
theorem deg_append (es : List (Nat × Nat)) (x : Nat) : ∀ a b : List Nat, deg es (a ++ b) x = deg es a x + deg es b x
  | [], b => by show deg es b x = 0 + deg es b x; omega
  | k :: a, b => by
    show _ + _ + deg es (a ++ b) x = _ + _ + deg es a x + deg es b x
    rw [deg_append es x a b]
    omega
theorem deg_perm {es : List (Nat × Nat)} {x : Nat} {a b : List Nat} (h : a.Perm b) : deg es a x = deg es b x := by
  induction h with
  | nil => rfl
  | cons k _ ih => show _ + _ + deg es _ x = _ + _ + deg es _ x; rw [ih]
  | swap k j l => show _ + _ + (_ + _ + deg es l x) = _ + _ + (_ + _ + deg es l x); omega
  | trans _ _ h1 h2 => exact h1.trans h2
end My
set_option Elab.async false
set_option linter.all false
set_option maxRecDepth 100000
set_option maxHeartbeats 4000000
namespace PySem.W
open PySem PySem.Spec PySem.Calls PyProof.Rows PyProof.V
section
variable {prog : Program} {w : World} {A : Around} {E : Value → Shared → Prop} {s : Shared} {T : String} {r d : Addr} {n : Nat} {P : Nat → Value → Prop} {OK : Heap → Prop}
theorem dcollect {R : List Value → Shared → Prop} (K : KdlSrc prog w T r d n P OK) (hh : A.handled = none) (hok : OK s.heap) (hn : n ≤ sizeLine)
    (h : ∀ (h' : Heap) (tk : Nat) (acc : Array Value), (∀ b o, s.heap.get? b = some o → h'.get? b = some o) → s.heap.objs.size < h'.objs.size → ItemsOf P acc n → R acc.toList { s with heap := h', toks := tk }) :
    wpAny (model prog w) A (collect (.ref r)) R E s := by
  have hlt := K.there _ hok
  unfold collect
  refine wpAny_bind (wpAny_runValue (codeAny_builtin entry_proto_collect' ?_))
  rw [Around.under_plainId PySem.F.plain_proto_collect _]
  show wpAny _ A.in1 (newList [] >>= fun l => again (.builtin "list.__iadd__" ⟨[l, .ref r], []⟩)) _ _ s
  refine wpAny_bind (wpAny_newObj_type ?_)
  refine wpAny_pure ⟨plainId_quiet PySem.F.plain_list_iadd _, codeAny_builtin entry_list_iadd' ?_⟩
  rw [Around.under_plainId PySem.F.plain_list_iadd _]
  have hS₁ : (s.heap.push { cls := .type "list", data := .seq ([] : List Value).toArray }).get? s.heap.objs.size = some { cls := .type "list", data := .seq #[] } := Heap.get?_push_size _ rfl
  show wpAny _ A.in1 (Builtin.List.listExtendWith (.ref s.heap.objs.size) (.ref r) (.ref s.heap.objs.size)) _ _ _
  have key := kdl_extend (A := A) (s := { s with heap := s.heap.push { cls := .type "list", data := .seq ([] : List Value).toArray } })
    (R := fun (q : Result) (s' : Shared) => ∃ (h' : Heap) (tk : Nat) (acc' : Array Value) (c' : Nat), q = .ok (.ret (.ref s.heap.objs.size)) ∧ s' = { s with heap := h', toks := tk } ∧
      (∀ b o, s.heap.get? b = some o → h'.get? b = some o) ∧ h'.get? s.heap.objs.size = some { cls := .type "list", dict := none, data := .seq acc' c', slots := #[] } ∧ ItemsOf P acc' n)
    K hh (K.keep _ _ hok fun b _ o e => Heap.get?_push_of_some _ e) s.heap.objs.size (Nat.ne_of_gt hlt.1) (Nat.ne_of_gt hlt.2) (.ref s.heap.objs.size) 0 hS₁
    (fun h' tk acc' c' hk hS' hacc => ⟨h', tk, acc', c', rfl, rfl, fun b o e => hk b o (Nat.ne_of_lt (Heap.lt_size e)) (Heap.get?_push_of_some _ e), hS', hacc⟩) hn
  refine wpAny_mono key (fun fin s' x => ?_) fun e s' x => ?_
  · cases fin with
    | done f =>
      obtain ⟨h', tk, acc', c', e, rfl, hk, hS', hacc⟩ := x
      cases e
      show wpAny _ A (load s.heap.objs.size >>= _) _ _ _
      refine wpAny_bind (wpAny_load hS' ?_)
      exact wpAny_pure (h h' tk acc' hk (Heap.lt_size hS') hacc)
    | again c₁ =>
      refine ⟨x.1, codeAny_mono x.2 fun q s₂ y => ?_⟩
      obtain ⟨h', tk, acc', c', rfl, rfl, hk, hS', hacc⟩ := y
      show wpAny _ A (load s.heap.objs.size >>= _) _ _ _
      refine wpAny_bind (wpAny_load hS' ?_)
      exact wpAny_pure (h h' tk acc' hk (Heap.lt_size hS') hacc)
  · obtain ⟨_, _, _, _, e', _⟩ := x
    cases e'
end
end PySem.W
namespace L2
open PySem PySem.Spec PyProof.Rows
section
variable {prog : Program} {w : World} {K : Type} [DecidableEq K] {knd : KeyKind prog w K} {A : Around} {E : Value → Shared → Prop} {s : Shared}
theorem sorted_dict {d : Addr} {kvs : List (K × Value)} {ns : List Int} {Q : Value → Shared → Prop} (hh : A.handled = none) (lo : (d == sysModules) = false) (hD : s.heap.DictOf knd d kvs) (h64 : kvs.length < 64)
    (hk : ∀ (i : Nat) (k : K) (x v : Value), kvs[i]? = some (k, x) → knd.is k v = true → ∃ t, v = .int (ns.getD i 0) t) (hl : ns.length = kvs.length)
    (h : ∀ (h' : Heap) (tk : Nat) (p : Addr) (out : Array Value) (e : Nat) (ns' : List Int), (∀ b o, s.heap.get? b = some o → h'.get? b = some o) → s.heap.objs.size ≤ p → h'.get? p = some (seqObj "list" out e) → IntsAre out.toList ns' → ns'.Perm ns → ns'.Pairwise (· ≤ ·) → Q (.ref p) { s with heap := h', toks := tk }) :
    wpAny (model prog w) A (call (.builtin "sorted") [.ref d]) Q E s := by
  obtain ⟨ep, hat⟩ := hD.dictAt
  refine Calls.call_function_entry kind_sorted plain_sorted entry_sorted (args_sorted1 _) ?_
  unfold Builtin.«sorted»
  refine wpAny_bind (m := checkCount "sorted" 1 1 _) (wpAny_pure ?_)
  refine wpAny_bind (PySem.W.dcollect (A := A.in1) (PySem.W.kdl_dict (knd := knd) (kvs := kvs) (ep := ep) lo) (by simp [hh]) hat (leMil (by omega)) fun h1 tk acc hk1 hsz hacc => ?_)
  have hl1 : acc.toList.length = kvs.length := by rw [Array.length_toList]; exact hacc.1
  refine wpAny_bind (wpAny_newList ?_ (by rw [hl1]; exact leMil (by omega)))
  have hoL : (h1.push (seqObj "list" acc.toList.toArray 0)).get? h1.objs.size = some (seqObj "list" acc.toList.toArray 0) := Heap.get?_push_size _ rfl
  have hI : IntsAre acc.toList ns := by
    have key : ∀ (vs : List Value) (ms : List Int), vs.length = ms.length → (∀ (i : Nat) v, vs[i]? = some v → ∃ t, v = .int (ms.getD i 0) t) → IntsAre vs ms := by
      intro vs
      induction vs with
      | nil => intro ms hl _; cases ms with | nil => exact .nil | cons _ _ => cases hl
      | cons v vs ih =>
        intro ms hl hv
        cases ms with
        | nil => cases hl
        | cons m ms =>
          obtain ⟨t, rfl⟩ := hv 0 v rfl
          exact .cons _ _ (ih ms (by simpa using hl) fun i v' hv' => hv (i + 1) v' (by simpa using hv'))
    refine key _ _ (by omega) fun i v hv => ?_
    obtain ⟨k, x, hx, hkv⟩ := hacc.2 i v (by rw [← Array.getElem?_toList]; exact hv)
    exact hk i k x v hx hkv
  refine wpAny_bind (wpAny_holding (wpAny_call_entry slot_list_sort ⟨_, hoL, rfl⟩ entry_list_sort (list_sort_tree hoL hI (by omega) fun out ns' a1 a2 a3 => ⟨_, rfl, ?_⟩) (args_list_sort _)))
  obtain ⟨e, he⟩ := sortedHeap_at (out := out) hoL
  refine wpAny_pure ⟨_, rfl, h _ tk h1.objs.size out e ns' (fun b o eb => ?_) ?_ he a1 a2 a3⟩
  · have hlt : b < h1.objs.size := Heap.lt_size (hk1 b o eb)
    rw [sortedHeap_old (Nat.ne_of_lt hlt) (by rw [size_push']; exact Nat.lt_succ_of_lt hlt)]
    exact Heap.get?_push_of_some _ (hk1 b o eb)
  · exact Nat.le_of_lt hsz
end
end L2
namespace L2
open PySem PySem.Spec PyProof.Rows
section
variable {X : Cx}
theorem lst_vals {ns : List Int} : ∀ {us : List Value}, IntsAre us ns → Vals (ns.map V.int) us := by
  induction ns with
  | nil => intro us r; cases r; exact .nil
  | cons k ks ih =>
    intro us r
    cases r with
    | cons _ t hr => exact .cons ⟨t, rfl⟩ (ih hr)
def rSortedD : List V → Hp → VK → Prop := fun xs H Q => ∃ d, ∃ kvs : List (Key × V), ∃ ns : List Int, xs = [.ref d] ∧ H d = some (.dK kvs) ∧ kvs.map (·.1) = ns.map Sum.inl ∧ ns.length < 64 ∧ ∀ p (ns' : List Int) H', Same H H' → H' p = some (.lst (ns'.map V.int)) → ns'.Perm ns → ns'.Pairwise (· ≤ ·) → Q (.ref p) H'
theorem call_sortedD {k : Nat} (hr : Room k X.A) : CallR X (.builtin "sorted") rSortedD := by
  intro pins s σ H xs us Q I r h
  obtain ⟨d, kvs, ns, rfl, hd, hk, h64, q⟩ := h
  obtain ⟨u, rfl, rx⟩ := vals1 r
  cases (show u = Value.ref d from rx)
  obtain ⟨z, lo, vs, rel, dd⟩ := dk_of I.hok hd
  have hvl : kvs.length = vs.length := Paired.length rel
  have hkl : kvs.length = ns.length := by have := congrArg List.length hk; simpa using this
  have hkeys : vs.map (·.1) = ns.map (Sum.inl : Int → Key) := by
    rw [← hk]
    have : ∀ {kvs : List (Key × V)} {vs : List (Key × Value)}, KV kvs vs → vs.map (·.1) = kvs.map (·.1) := by
      intro kvs vs r
      induction r with
      | nil => rfl
      | cons h _ ih => rw [List.map_cons, List.map_cons, ih, h.1]
    exact this rel
  refine sorted_dict (knd := mixKind X.prog X.w) (ns := ns) hr.hd lo dd (by omega) (fun i k x v hi hv => ?_) (by omega) fun h' tk p out e ns' kp hp he a1 a2 a3 => ?_
  · have h1 : (vs.map (·.1))[i]? = some k := by rw [List.getElem?_map, hi]; rfl
    rw [hkeys, List.getElem?_map] at h1
    cases hn : ns[i]? with
    | none => rw [hn] at h1; cases h1
    | some m =>
      rw [hn] at h1
      cases h1
      rw [List.getD_eq_getElem?_getD, hn]
      obtain ⟨t, e⟩ := Value.isInt_shape (k := m) (v := v) hv
      exact ⟨t, e⟩
  · have hln := a2.length_eq
    refine ⟨.ref p, _, I.laid (t' := tk) (a := p) (o := .lst (ns'.map V.int)) kp hp ?_, rfl, q _ ns' _ (same_add (I.hok.fresh hp)) upd_same a2 a3⟩
    exact ⟨by rw [List.length_map]; exact leMil (by omega), out.toList, e, lst_vals a1, he⟩
def tDSetD (td ty tx : TE) : TE := fun σ H Q => td σ H fun x H1 => ∃ a, x = .ref a ∧ IsD H1 a ∧ ty σ H1 fun y H2 => tx σ H2 fun z H3 => ∃ kvs k, H3 a = some (.dK kvs) ∧ y = kV k ∧ kvs.length < 100000 ∧ (∀ v, valV kvs k = some v → Q v H3) ∧ (valV kvs k = none → Q z (upd H3 a (.dK (putK kvs k z))))
theorem pe_dsetd {o e f : Expr} {td ty tx : TE} {apos cpos : Pos} (ho : PE X o td) (he : PE X e ty) (hf : PE X f tx) (m : M2 X o "setdefault" apos e f cpos) : PE X (.Call (.Attribute o "setdefault" apos) [e, f] [] cpos) (tDSetD td ty tx) := by
  intro pins s σ H Q I h
  refine wpAny_Call_method m.base m.few m.line PySem.F.plainAttrs_dict PySem.F.slot_dict_setdefault PySem.F.type_dict_setdefault (thn (ho pins s σ H _ I h) fun u s1 ⟨x, H1, I1, rx, a, ex, d, q1⟩ => ?_)
  subst ex
  obtain rfl : u = Value.ref a := rx
  obtain ⟨t1, t2, _⟩ := isD_at I1 d
  refine ⟨t1, t2, ?_⟩
  rw [m.trees]
  refine Calls.callWith_builtin rfl (Calls.evalArgs_plain (Calls.spliced_cons (thn (he pins s1 σ H1 _ I1 q1) fun iv s2 ⟨y, H2, I2, ry, q2⟩ =>
    Calls.spliced_cons (thn (hf pins s2 σ H2 _ I2 q2) fun fv s3 ⟨z, H3, I3, rz, kvs, k, hd, ey, hl, q3, q4⟩ => Calls.spliced_nil ?_))))
  subst ey
  obtain ⟨zz, lo, vs, rel, dd⟩ := dk_of I3.hok hd
  have hz : vs.length ≤ sizeLine := by rw [← rel.length]; exact zz
  refine call_meetsIn PySem.F.slot_dict_setdefault dd.typeIs PySem.F.entry_dict_setdefault (PySem.F.args_dict_setdefault_3 _ _ _) (kt_meets_setdefault (mixKind X.prog X.w) a (kV_is ry) lo fv) ⟨vs, dd, hz, fun v hv => ?_, fun hn h' dd' hs => ?_⟩
  · have rv := rel.val k
    rw [hv] at rv
    cases hk : valV kvs k with
    | none => rw [hk] at rv; exact rv.elim
    | some x => rw [hk] at rv; exact ⟨x, H3, I3.tok _, rv, q3 x hk⟩
  · have rv := rel.val k
    rw [hn] at rv
    have hk : valV kvs k = none := by
      cases hk : valV kvs k with
      | none => rfl
      | some x => rw [hk] at rv; exact rv.elim
    have he : ∃ q, h'.get? a = some q := let ⟨q, _, _, hq, _⟩ := dd'; ⟨q, hq⟩
    have hl' : (putK kvs k z).length ≤ sizeLine := leMil (by have := length_putK kvs k z; omega)
    exact ⟨z, _, d_write I3 (by rw [hd]; exact True.intro) hs he (dk_new hl' lo (rel.put k rz) dd'), rz, q4 hk⟩
end
end L2
set_option linter.all false
namespace My
theorem step_ne {a d p : Int} (h0 : 0 ≤ a) (h1 : a < p) (h2 : 1 ≤ d) (h3 : d < p) : (a + d) % p ≠ a := by
  by_cases h : a + d < p
  · rw [Int.emod_eq_of_lt (by omega) h]; omega
  · have e : (a + d) % p = a + d - p := by
      have e1 : (a + d - p) % p = (a + d) % p := by rw [Int.sub_emod_right]
      rw [← e1]
      exact Int.emod_eq_of_lt (by omega) (by omega)
    rw [e]; omega
theorem next_ne {n p : Int} (h : 2 ≤ p) : (n + 1) % p ≠ n % p := by
  have h1 := step_ne (a := n % p) (d := 1) (p := p) (Int.emod_nonneg _ (by omega)) (Int.emod_lt_of_pos _ (by omega)) (by omega) (by omega)
  rw [Int.emod_add_emod] at h1
  exact h1
theorem mod_lo {n p : Int} (h : 0 < p) : 0 ≤ n % p := Int.emod_nonneg _ (by omega)
theorem mod_hi {n p : Int} (h : 0 < p) : n % p < p := Int.emod_lt_of_pos _ h
end My
set_option Elab.async false
set_option linter.all false
set_option maxRecDepth 100000
set_option maxHeartbeats 4000000
namespace My
open PySem L2
def top (i : Nat) : Stmt := PySem.Challenge.pw_tintties_k13_whole_turned.main.body.getD i (.Pass ⟨0, 0, 0, 0⟩)
def Dr (ns : List Int) : Prop := ns.length = 222 ∧ ∀ x ∈ ns, 0 ≤ x
section
variable {P : Program} {w : World} {K : PySem.W.Frag} {mg : Str → Option Value} {base : Heap} {Pt c : Addr}
abbrev sMx : Stmt := top 7
def spMx : Sp := fun vs H Q _ => ∃ cc k : Int, vs = [.int cc, .int k] ∧ 0 ≤ k ∧ k ≤ 1000 ∧ ∀ v : Int, 0 ≤ v → Q (.int v) H
theorem scMx : FnScope ["_law_cell", "_law_k", "_law_first", "_law_second"] ["_law_cell", "_law_k"] (defScope sMx) := ⟨rfl, rfl, rfl, by decide +kernel, rfl, by decide +kernel, by decide +kernel⟩
theorem ok_mx {f : Addr} {fd : FuncData} (F : Fun K "_law_mixed" "_law_mixed" sMx f fd) (T : Bi mg) : FnOk P w K mg base CX0 1 f fd ["_law_cell", "_law_k"] spMx := by
  refine F.ok scMx (fun vs H Q E h => ?_) (fun cdv A outer s H vs Q E hr h => ?_)
  · obtain ⟨cc, k, rfl, _⟩ := h
    rfl
  · obtain ⟨cc, k, rfl, k0, k1, q⟩ := h
    refine ⟨_, pss_cons (ps_set (i := 2) scMx.nd rfl (Or.inl rfl) (pe_op op_mod (pe_op op_add (pe_op op_add (pe_op op_mul (pe_op op_mod (pv 0) pe_int) (pe_op op_add pe_int (pe_op op_mul pe_int (pv 1)))) (pe_op op_mul (pe_op op_mul (pv 1) (pv 1)) pe_int)) pe_int) pe_int))
      (pss_cons (ps_set (i := 3) scMx.nd rfl (Or.inl rfl) (pe_op op_mod (pe_op op_add (pe_op op_mul (pv 2) (pv 2)) (pe_op op_mul (pv 1) pe_int)) pe_int))
      (pss_one (ps_ret (pe_op op_mod (pe_op op_mul (pv 3) (pv 3)) pe_int)))), ?_⟩
    have a1 := mod_lo (n := cc) (p := 2147483629) (by decide)
    have a2 := mod_hi (n := cc) (p := 2147483629) (by decide)
    refine ⟨_, rfl, _, _, rfl, rfl, (by show (0 : Int) < 2147483629; decide), _, rfl, _, _, rfl, rfl, .inl ⟨by decide, by decide⟩, _, _, rfl, rfl, _, _, rfl, rfl, .inl ⟨by omega, by omega⟩, _, rfl, _, rfl, _, _, rfl, rfl, .inl ⟨by omega, by omega⟩, _, _, rfl, rfl, .inr ⟨by decide, by decide⟩, _, _, rfl, rfl, _, _, rfl, rfl, _, _, rfl, rfl, (by show (0 : Int) < 2147483647; decide), ?_⟩
    generalize hX : cc % 2147483629 * (48271 + 2 * k) + k * k * 7919 + 104729 = X
    have b1 := mod_lo (n := X) (p := 2147483647) (by decide)
    have b2 := mod_hi (n := X) (p := 2147483647) (by decide)
    refine ⟨_, rfl, _, rfl, _, _, rfl, rfl, .inl ⟨by omega, by omega⟩, _, rfl, _, _, rfl, rfl, .inl ⟨by omega, by omega⟩, _, _, rfl, rfl, _, _, rfl, rfl, (by show (0 : Int) < 2147483587; decide), ?_⟩
    generalize hY : X % 2147483647 * (X % 2147483647) + k * 40692 = Y
    have c1 := mod_lo (n := Y) (p := 2147483587) (by decide)
    have c2 := mod_hi (n := Y) (p := 2147483587) (by decide)
    refine ⟨_, rfl, _, rfl, _, _, rfl, rfl, .inl ⟨by omega, by omega⟩, _, _, rfl, rfl, (by show (0 : Int) < 2147483579; decide), ?_⟩
    exact q _ (mod_lo (by decide))
end
theorem set_map (cs : List Int) (k : Nat) (v : Int) : (cs.map V.int).set k (.int v) = (cs.set k v).map V.int := by rw [List.map_set]
theorem get_map {cs : List Int} {k : Nat} (h : k < cs.length) : (cs.map V.int)[k]? = some (.int cs[k]) := by rw [List.getElem?_map, List.getElem?_eq_getElem h]; rfl
section
variable {P : Program} {w : World} {K : PySem.W.Frag} {mg : Str → Option Value} {base : Heap} {Pt c : Addr}
abbrev sDs : Stmt := top 8
abbrev nDs : List Str := ["_law_script", "_law_many", "_law_cells", "_law_by_digits", "_law_found", "_law_k", "_law_at"]
def spDs (K : PySem.W.Frag) : Sp := fun vs H Q _ => ∃ (a : Addr) (ns : List Int), vs = [.ref a, .int 222] ∧ SqL K H a (ns.map V.int) ∧ ns.length ≤ 63 ∧ ∀ H' d ds, Same H H' → H' d = some (.lst (ds.map V.int)) → Dr ds → Q (.ref d) H'
theorem scDs : FnScope nDs ["_law_script", "_law_many"] (defScope sDs) := ⟨rfl, rfl, rfl, by decide +kernel, rfl, by decide +kernel, by decide +kernel⟩
theorem ok_ds {f : Addr} {fd : FuncData} (F : Fun K "_law_draws" "_law_draws" sDs f fd) (T : Bi mg) (FM : FnE P w K mg base "_law_mixed" ["_law_cell", "_law_k"] 1 spMx) : FnOk P w K mg base CX0 2 f fd ["_law_script", "_law_many"] (spDs K) := by
  refine F.ok scDs (fun vs H Q E h => ?_) (fun cdv A outer s H vs Q E hr h => ?_)
  · obtain ⟨a, ns, rfl, _⟩ := h
    rfl
  · obtain ⟨a, ns, rfl, hS, hl, q⟩ := h
    obtain ⟨tR, hR, rest⟩ : ∃ t, PSs (cxOf CX0 P w K mg base nDs "_law_draws" (defScope sDs) f cdv A outer s H E).nox ((defBody sDs).drop 2) t ∧ ∀ (H1 : Hp) (C : Addr) (cs : List Int), Same H H1 → H C = none → H1 C = some (.lst (cs.map V.int)) → 0 < cs.length → cs.length ≤ 63 →
        t { nx := fun _ H' => Q .non H', rt := Q } [some (.ref a), some (.int 222), some (.ref C), none, none, none, none] H1 := by
      refine ⟨_, pss_cons (ps_set (i := 3) scDs.nd rfl (Or.inl rfl) (pe_cmpR op_eq (pe_op op_mod (pe_ix ix_list (pv 2) pe_int (fun _ _ => rfl)) pe_int) pe_int (nomark _)))
        (pss_cons (ps_asg (pe_op op_fdiv (pe_ix ix_list (pv 2) pe_int (fun _ _ => rfl)) pe_int) (pg_sub (pv 2) pe_int set_listN))
        (pss_cons (ps_set (i := 4) scDs.nd rfl (Or.inl rfl) (pe_lst pa_nil))
        (pss_cons (ps_for PassesOwn.never rfl (pi_range1 rfl T.range (pa_c (pv 1) pa_nil)) (pg_name (i := 5) scDs.nd rfl (Or.inl rfl))
          (pss_cons (ps_set (i := 6) scDs.nd rfl (Or.inl rfl) (pe_op op_mod (pv 5) (pe_callB call_len_seq rfl T.len bLen (pa_c (pv 2) pa_nil))))
          (pss_one (ps_if (pt_val (pv 3))
            (pss_cons (ps_expr (pe_bm PySem.F.plainAttrs_list PySem.F.slot_list_append PySem.F.type_list_append mt_append (pv 4) (pa_c (pe_op op_mod (pe_ix ix_list (pv 2) (pv 6) (fun _ _ => rfl)) pe_int) pa_nil)))
            (pss_one (ps_asg (pe_op op_fdivL (pe_ix ix_list (pv 2) (pv 6) (fun _ _ => rfl)) pe_int) (pg_sub (pv 2) (pv 6) set_listN))))
            (pss_one (ps_expr (pe_bm PySem.F.plainAttrs_list PySem.F.slot_list_append PySem.F.type_list_append mt_append (pv 4) (pa_c (pe_fc FM hr (pa_c (pe_ix ix_list (pv 2) (pv 6) (fun _ _ => rfl)) (pa_c (pv 5) pa_nil))) pa_nil))))))))
        (pss_one (ps_ret (pv 4)))))), fun H1 C cs s1 hC0 hC hpos h63 => ?_⟩
      have g0 := atI_nat (get_map hpos)
      refine ⟨_, rfl, C, _, _, _, rfl, rfl, SqL.of hC, g0, _, _, rfl, rfl, (by show (0 : Int) < 2; decide), rfl, ?_⟩
      generalize hb : decide (V.int (cs[0] % 2) = V.int 0) = b
      refine ⟨_, rfl, C, _, _, _, rfl, rfl, SqL.of hC, g0, _, _, rfl, rfl, ⟨by decide, by decide⟩, _, rfl, C, _, 0, rfl, rfl, hC, by rw [List.length_map]; exact hpos, ?_⟩
      rw [set_map]
      refine ⟨(by show 0 ≤ sizeLine; exact Nat.zero_le _), fun D hD => ?_⟩
      have hCD : C ≠ D := fun z => by subst z; rw [upd_same] at hD; cases hD
      have hD0 : H D = none := by
        cases z : H D with
        | none => rfl
        | some o => rw [upd_ne (Ne.symm hCD), s1 D o z] at hD; cases hD
      have sC : ∀ H' o, Same H H' → Same H (upd H' C o) := fun H' o s' c' o' e' => by rw [upd_ne (ne_of_none e' hC0)]; exact s' c' o' e'
      have sD : ∀ H' o, Same H H' → Same H (upd H' D o) := fun H' o s' c' o' e' => by rw [upd_ne (ne_of_none e' hD0)]; exact s' c' o' e'
      refine ⟨_, rfl, 222, rfl, by decide, by decide, for_range (lo := 0) (n := (222 : Int).toNat) (fun i σ H' => ∃ cs ds v5 v6, σ = [some (.ref a), some (.int 222), some (.ref C), some (.bl b), some (.ref D), v5, v6] ∧ H' C = some (.lst (List.map V.int cs)) ∧ 0 < cs.length ∧ H' D = some (.lst (List.map V.int ds)) ∧ ds.length = i ∧ (∀ x ∈ ds, 0 ≤ x) ∧ Same H H')
        ⟨cs.set 0 (cs[0] / 2), [], _, _, rfl, by rw [upd_ne hCD, upd_same], by rw [List.length_set]; exact hpos, upd_same, rfl, (fun x hx => by cases hx), sD _ _ (sC _ _ s1)⟩ (fun i σ H' hi ⟨cs, ds, v5, v6, e, hC', hp', hD', hl', hnn, sH⟩ => ?_) (fun σ H' ⟨cs, ds, v5, v6, e, hC', hp', hD', hl', hnn, sH⟩ => ?_)⟩
      · subst e
        have hi' : i < 222 := hi
        have m1 := mod_lo (n := 0 + (i : Int)) (p := (cs.length : Int)) (by omega)
        have m2 := mod_hi (n := 0 + (i : Int)) (p := (cs.length : Int)) (by omega)
        obtain ⟨k, hk⟩ : ∃ k : Nat, (0 + (i : Int)) % (cs.length : Int) = (k : Int) := ⟨((0 + (i : Int)) % (cs.length : Int)).toNat, by omega⟩
        have hkl : k < cs.length := by omega
        refine ⟨_, rfl, _, rfl, C, _, rfl, .inl (SqL.of hC'), _, _, rfl, rfl, (by show (0 : Int) < ((List.map V.int cs).length : Int); rw [List.length_map]; omega), ?_⟩
        have hk2 : (0 + (i : Int)) % ((List.map V.int cs).length : Int) = (k : Int) := by rw [List.length_map]; exact hk
        simp only [hk2]
        have gk := atI_nat (get_map hkl)
        have szD : (List.map V.int ds).length < sizeLine := by rw [List.length_map, sizeLine_eq]; omega
        refine ⟨_, rfl, _, rfl, ite2 (fun _ => ?_) (fun _ => ?_)⟩
        · refine ⟨_, rfl, .inl ⟨rfl, _, SqL.of hD'⟩, _, rfl, _, rfl, C, _, _, _, rfl, rfl, SqL.of hC', gk, _, _, rfl, rfl, (by show (0 : Int) < 2147483579; decide), D, _, _, rfl, rfl, hD', szD, ?_⟩
          have hC2 : (upd H' D (.lst (List.map V.int ds ++ [.int (cs[k] % 2147483579)]))) C = some (.lst (List.map V.int cs)) := by rw [upd_ne hCD]; exact hC'
          refine ⟨_, rfl, _, rfl, C, _, _, _, rfl, rfl, SqL.of hC2, gk, _, _, rfl, rfl, ⟨by decide, by decide⟩, _, rfl, _, rfl, C, _, k, rfl, rfl, hC2, by rw [List.length_map]; exact hkl, ?_⟩
          rw [set_map]
          refine ⟨cs.set k (cs[k] / 2147483579), ds ++ [cs[k] % 2147483579], _, _, rfl, upd_same, by rw [List.length_set]; exact hp', ?_, by rw [List.length_append, hl']; rfl, fun x hx => ?_, sC _ _ (sD _ _ sH)⟩
          · rw [upd_ne (Ne.symm hCD), upd_same, List.map_append]
            rfl
          · rcases List.mem_append.mp hx with z | z
            · exact hnn x z
            · rw [List.mem_singleton.mp z]; exact mod_lo (by decide)
        · refine ⟨_, rfl, .inl ⟨rfl, _, SqL.of hD'⟩, _, rfl, _, rfl, C, _, _, _, rfl, rfl, SqL.of hC', gk, _, rfl, cs[k], 0 + (i : Int), rfl, by omega, by omega, fun v hv => ?_⟩
          refine ⟨D, _, _, rfl, rfl, hD', szD, cs, ds ++ [v], _, _, rfl, by rw [upd_ne hCD]; exact hC', hp', ?_, by rw [List.length_append, hl']; rfl, fun x hx => ?_, sD _ _ sH⟩
          · rw [upd_same, List.map_append]
            rfl
          · rcases List.mem_append.mp hx with z | z
            · exact hnn x z
            · rw [List.mem_singleton.mp z]; exact hv
      · subst e
        exact ⟨_, rfl, q H' D ds sH hD' ⟨hl', hnn⟩⟩
    refine ⟨_, pss_cons (ps_set (i := 2) scDs.nd rfl (Or.inl rfl) (pe_callTy call_list_of rfl T.list bList (pa_c (pv 0) pa_nil)))
      (pss_cons (ps_if (pt_cmpR op_eq (pe_callB call_len_seq rfl T.len bLen (pa_c (pv 2) pa_nil)) pe_int (nomark _)) (pss_one (ps_set (i := 2) scDs.nd rfl (Or.inl rfl) (pe_lst (pa_c pe_int pa_nil)))) pss_nil) hR), ?_⟩
    refine ⟨_, rfl, a, _, rfl, .inl hS, fun C hC => ?_⟩
    refine ⟨_, rfl, C, _, rfl, .inl (SqL.of upd_same), rfl, _, rfl, ?_⟩
    refine ite2 (fun h0 => ?_) (fun h0 => ?_)
    · refine ⟨(by show 1 ≤ sizeLine; decide), fun C2 hC2 => ?_⟩
      have hC20 : H C2 = none := by
        cases z : H C2 with
        | none => rfl
        | some o => rw [same_new hC C2 o z] at hC2; cases hC2
      exact rest _ C2 [1] (Same.trans (same_new hC) (same_new hC2)) hC20 upd_same (by decide) (by decide)
    · refine rest _ C ns (same_new hC) hC upd_same ?_ hl
      rcases Nat.eq_zero_or_pos ns.length with z | z
      · refine absurd ?_ h0
        rw [List.length_map, z]
        rfl
      · exact z
end
def drw (ns : List Int) (k : Int) : Int := ns.getD k.toNat 0
theorem drw_nn {ns : List Int} (h : Dr ns) (k : Int) : 0 ≤ drw ns k := by
  unfold drw
  rw [List.getD_eq_getElem?_getD]
  cases z : ns[k.toNat]? with
  | none => exact Int.le_refl _
  | some x => exact h.2 x (List.mem_of_getElem? z)
section
variable {P : Program} {w : World} {K : PySem.W.Frag} {mg : Str → Option Value} {base : Heap}
abbrev sDraw : Stmt := top 9
def spDraw (K : PySem.W.Frag) : Sp := fun vs H Q _ => ∃ (a : Addr) (ns : List Int) (k : Int), vs = [.ref a, .int k] ∧ SqL K H a (ns.map V.int) ∧ Dr ns ∧ 0 ≤ k ∧ k ≤ 221 ∧ Q (.int (drw ns k)) H
theorem scDraw : FnScope ["_law_draws_here", "_law_k"] ["_law_draws_here", "_law_k"] (defScope sDraw) := ⟨rfl, rfl, rfl, by decide +kernel, rfl, by decide +kernel, by decide +kernel⟩
theorem ok_draw {f : Addr} {fd : FuncData} (F : Fun K "_law_draw" "_law_draw" sDraw f fd) (T : Bi mg) : FnOk P w K mg base CX0 1 f fd ["_law_draws_here", "_law_k"] (spDraw K) := by
  refine F.ok scDraw (fun vs H Q E h => ?_) (fun cdv A outer s H vs Q E hr h => ?_)
  · obtain ⟨a, ns, k, rfl, _⟩ := h
    rfl
  · obtain ⟨a, ns, k, rfl, hS, hd, h0, h1, q⟩ := h
    obtain ⟨m, rfl⟩ : ∃ m : Nat, k = (m : Int) := ⟨k.toNat, by omega⟩
    have hm : m < ns.length := by have := hd.1; omega
    refine ⟨_, pss_one (ps_ret (pe_ix ix_list (pv 0) (pv 1) (fun _ _ => rfl))), ?_⟩
    refine ⟨_, rfl, _, rfl, a, _, _, _, rfl, rfl, hS, atI_nat (get_map hm), ?_⟩
    have e : drw ns (m : Int) = ns[m] := by unfold drw; rw [Int.toNat_natCast, List.getD_eq_getElem?_getD, List.getElem?_eq_getElem hm]; rfl
    rw [← e]
    exact q
end
end My
set_option Elab.async false
set_option linter.all false
set_option maxRecDepth 100000
set_option maxHeartbeats 4000000
namespace My
open PySem L2
def compScope : Expr → Scope
  | .ListComp _ _ s _ => s
  | .Call _ [e] _ _ => compScope e
  | .Tuple [_, e] _ _ => compScope e
  | .BinOp _ _ e _ => compScope e
  | .Compare a _ _ _ => compScope a
  | _ => { kind := .function, names := [], isGenerator := false, isCoroutine := false }
def retE : Stmt → Expr
  | .Return (some e) _ => e
  | .Assign _ e _ => e
  | _ => .Constant .none 0 ⟨0, 0, 0, 0⟩
def stOf (i k : Nat) : Stmt := (defBody (top i)).getD k (.Pass ⟨0,0,0,0⟩)
section
variable {P : Program} {w : World} {K : PySem.W.Frag} {mg : Str → Option Value} {base : Heap}
abbrev sTie : Stmt := top 10
abbrev nTie : List Str := ["_law_number", "_law_k", "_law_points", "_law_kind", "_law_one", "_law_other"]
def spTie : Sp := fun vs H Q _ => ∃ n k p kd : Int, vs = [.int n, .int k, .int p, .int kd] ∧ 0 ≤ n ∧ 0 ≤ k ∧ 2 ≤ p ∧ p ≤ 60 ∧
  ∀ (i j : Int) (t : Addr) (H' : Hp), 0 ≤ i → i < p → 0 ≤ j → j < p → i ≠ j → Same H H' → H' t = some (.tup [.int i, .int j]) → Q (.ref t) H'
theorem scTie : FnScope nTie ["_law_number", "_law_k", "_law_points", "_law_kind"] (defScope sTie) := ⟨rfl, rfl, rfl, by decide +kernel, rfl, by decide +kernel, by decide +kernel⟩
theorem ok_tie {f : Addr} {fd : FuncData} (F : Fun K "_law_tie" "_law_tie" sTie f fd) : FnOk P w K mg base CX0 1 f fd ["_law_number", "_law_k", "_law_points", "_law_kind"] spTie := by
  refine F.ok scTie (fun vs H Q E h => ?_) (fun cdv A outer s H vs Q E hr h => ?_)
  · obtain ⟨n, k, p, kd, rfl, _⟩ := h
    rfl
  · obtain ⟨n, k, p, kd, rfl, n0, k0, p2, p60, q⟩ := h
    obtain ⟨t5, h5, r5⟩ : ∃ t, PSs (cxOf CX0 P w K mg base nTie "_law_tie" (defScope sTie) f cdv A outer s H E).nox ((defBody sTie).drop 5) t ∧ ∀ i j : Int, 0 ≤ i → i < p → 0 ≤ j → j < p → i ≠ j →
        t { nx := fun _ H' => Q .non H', rt := Q } [some (.int n), some (.int k), some (.int p), some (.int kd), some (.int i), some (.int j)] H := by
      refine ⟨_, pss_cons (ps_if (pt_cmpR op_eq (pe_op op_mod (pe_op op_fdiv (pv 0) pe_int) pe_int) pe_int (nomark _)) (pss_one (ps_ret (pe_tupS (pa_c (pv 5) (pa_c (pv 4) pa_nil))))) pss_nil) (pss_one (ps_ret (pe_tupS (pa_c (pv 4) (pa_c (pv 5) pa_nil))))), fun i j i0 i1 j0 j1 ne => ?_⟩
      refine ⟨_, rfl, _, _, rfl, rfl, ⟨by decide, by decide⟩, _, _, rfl, rfl, (by show (0 : Int) < 2; decide), rfl, _, rfl, ?_⟩
      refine ite2 (fun _ => ?_) (fun _ => ?_)
      · exact ⟨_, rfl, _, rfl, rfl, fun t H' s' ht => q j i t H' j0 j1 i0 i1 (Ne.symm ne) s' ht⟩
      · exact ⟨_, rfl, _, rfl, rfl, fun t H' s' ht => q i j t H' i0 i1 j0 j1 ne s' ht⟩
    have m1 := mod_lo (n := n / 64) (p := p - 1) (by omega)
    have m2 := mod_hi (n := n / 64) (p := p - 1) (by omega)
    obtain ⟨t4, h4, r4⟩ : ∃ t, PSs (cxOf CX0 P w K mg base nTie "_law_tie" (defScope sTie) f cdv A outer s H E).nox ((defBody sTie).drop 4) t ∧ ∀ i j : Int, 0 ≤ i → i < p → 0 ≤ j → j < p → i ≠ j →
        t { nx := fun _ H' => Q .non H', rt := Q } [some (.int n), some (.int k), some (.int p), some (.int kd), some (.int i), some (.int j)] H := by
      refine ⟨_, pss_cons (ps_if (pt_cmpR op_eq (pv 3) pe_int (nomark _)) (pss_cons (ps_set (i := 4) scTie.nd rfl (Or.inl rfl) pe_int) (pss_one (ps_set (i := 5) scTie.nd rfl (Or.inl rfl) (pe_op op_add pe_int (pe_op op_mod (pe_op op_fdiv (pv 0) pe_int) (pe_op op_sub (pv 2) pe_int)))))) pss_nil) h5, fun i j i0 i1 j0 j1 ne => ?_⟩
      refine ⟨_, rfl, rfl, _, rfl, ?_⟩
      refine ite2 (fun _ => ?_) (fun _ => ?_)
      · exact ⟨_, rfl, _, _, rfl, rfl, ⟨by decide, by decide⟩, _, rfl, _, _, rfl, rfl, _, _, rfl, rfl, (by show (0 : Int) < p - 1; omega), _, _, rfl, rfl, r5 0 _ (by omega) (by omega) (by omega) (by omega) (by omega)⟩
      · exact r5 i j i0 i1 j0 j1 ne
    obtain ⟨t3, h3, r3⟩ : ∃ t, PSs (cxOf CX0 P w K mg base nTie "_law_tie" (defScope sTie) f cdv A outer s H E).nox ((defBody sTie).drop 3) t ∧ ∀ i j : Int, 0 ≤ i → i < p → 0 ≤ j → j < p → i ≠ j →
        t { nx := fun _ H' => Q .non H', rt := Q } [some (.int n), some (.int k), some (.int p), some (.int kd), some (.int i), some (.int j)] H := by
      refine ⟨_, pss_cons (ps_if (PW.pt (pw_and (pt_cmpR op_eq (pv 3) pe_int (nomark _)) (pw_and1 (pt_cmpR op_lt (pv 1) (pv 2) (nomark _))))) (pss_cons (ps_set (i := 4) scTie.nd rfl (Or.inl rfl) (pv 1)) (pss_one (ps_set (i := 5) scTie.nd rfl (Or.inl rfl) (pe_op op_mod (pe_op op_add (pv 1) pe_int) (pv 2))))) pss_nil) h4, fun i j i0 i1 j0 j1 ne => ?_⟩
      refine ⟨_, rfl, rfl, _, rfl, ?_⟩
      refine ite2 (fun _ => ?_) (fun _ => ?_)
      · refine ⟨_, rfl, _, rfl, _, _, rfl, rfl, _, rfl, ?_⟩
        refine ite2 (fun hz => ?_) (fun _ => ?_)
        · have hk : k < p := of_decide_eq_true hz
          have e : k % p = k := Int.emod_eq_of_lt k0 hk
          refine ⟨_, rfl, ?_⟩
          refine ⟨_, rfl, _, _, rfl, rfl, _, rfl, _, _, rfl, rfl, (by show (0 : Int) < p; omega), r4 k _ k0 hk (mod_lo (by omega)) (mod_hi (by omega)) (fun z => next_ne (n := k) p2 (by rw [← z, e]))⟩
        · exact r4 i j i0 i1 j0 j1 ne
      · exact iteF (r4 i j i0 i1 j0 j1 ne)
    refine ⟨_, pss_cons (ps_set (i := 4) scTie.nd rfl (Or.inl rfl) (pe_op op_mod (pv 0) (pv 2)))
      (pss_cons (ps_set (i := 5) scTie.nd rfl (Or.inl rfl) (pe_op op_mod (pe_op op_add (pe_op op_add (pv 4) pe_int) (pe_op op_mod (pe_op op_fdiv (pv 0) pe_int) (pe_op op_sub (pv 2) pe_int))) (pv 2)))
      (pss_cons (ps_if (pt_cmpR op_eq (pv 3) pe_int (nomark _)) (pss_cons (ps_set (i := 4) scTie.nd rfl (Or.inl rfl) (pe_op op_mod (pv 0) (pe_op op_fdiv (pv 2) pe_int)))
        (pss_one (ps_set (i := 5) scTie.nd rfl (Or.inl rfl) (pe_op op_add (pe_op op_fdiv (pv 2) pe_int) (pe_op op_mod (pe_op op_fdiv (pv 0) pe_int) (pe_op op_sub (pv 2) (pe_op op_fdiv (pv 2) pe_int))))))) pss_nil) h3)), ?_⟩
    have a1 := mod_lo (n := n) (p := p) (by omega)
    have a2 := mod_hi (n := n) (p := p) (by omega)
    refine ⟨_, rfl, _, rfl, _, _, rfl, rfl, (by show (0 : Int) < p; omega), ?_⟩
    refine ⟨_, rfl, _, _, rfl, rfl, _, rfl, _, _, rfl, rfl, ⟨by decide, by decide⟩, _, rfl, _, _, rfl, rfl, _, _, rfl, rfl, (by show (0 : Int) < p - 1; omega), _, _, rfl, rfl, _, rfl, _, _, rfl, rfl, (by show (0 : Int) < p; omega), ?_⟩
    have ne : n % p ≠ (n % p + 1 + n / 64 % (p - 1)) % p := fun z => by
      refine step_ne (a := n % p) (d := 1 + n / 64 % (p - 1)) (p := p) a1 a2 (by omega) (by omega) ?_
      rw [← Int.add_assoc]
      exact z.symm
    refine ⟨_, rfl, rfl, _, rfl, ?_⟩
    refine ite2 (fun _ => ?_) (fun _ => ?_)
    · have b1 := mod_lo (n := n) (p := p / 2) (by omega)
      have b2 := mod_hi (n := n) (p := p / 2) (by omega)
      have b3 := mod_lo (n := n / 64) (p := p - p / 2) (by omega)
      have b4 := mod_hi (n := n / 64) (p := p - p / 2) (by omega)
      refine ⟨_, rfl, _, rfl, _, _, rfl, rfl, ⟨by decide, by decide⟩, _, _, rfl, rfl, (by show (0 : Int) < p / 2; omega), ?_⟩
      exact ⟨_, rfl, _, _, rfl, rfl, ⟨by decide, by decide⟩, _, rfl, _, _, rfl, rfl, ⟨by decide, by decide⟩, _, rfl, _, rfl, _, _, rfl, rfl, ⟨by decide, by decide⟩, _, _, rfl, rfl, _, _, rfl, rfl, (by show (0 : Int) < p - p / 2; omega), _, _, rfl, rfl, r3 _ _ (by omega) (by omega) (by omega) (by omega) (by omega)⟩
    · exact r3 _ _ a1 a2 (mod_lo (by omega)) (mod_hi (by omega)) ne
abbrev sNet : Stmt := top 11
abbrev netScope : Scope := compScope (retE (stOf 11 5))
abbrev nNet : List Str := ["_law_draws_here", "_law_at", "_law_points", "_law_kind", "_law_many"]
def spNet (K : PySem.W.Frag) : Sp := fun vs H Q _ => ∃ (a : Addr) (ns : List Int), vs = [.ref a, .int 8] ∧ SqL K H a (ns.map V.int) ∧ Dr ns ∧
  ∀ (H' : Hp) (p : Addr) (n : Nat) (q : Addr) (ts : List V) (es : List (Nat × Nat)), Same H H' → NetZ H' p n q ts es → 2 ≤ n → es.length ≤ 40 → Q (.ref p) H'
theorem ndNet : (["_law_k", "_law_at", "_law_draws_here", "_law_kind", "_law_points"] : List Str).Nodup := by decide +kernel
theorem scNet : FnScope nNet ["_law_draws_here", "_law_at"] (defScope sNet) := ⟨rfl, rfl, rfl, by decide +kernel, rfl, by decide +kernel, by decide +kernel⟩
theorem blkNet {f : Addr} {cdv : Value} {A : Around} {outer : List Env} {s : Shared} {H : Hp} {E : XK} :
    Blk (cxOf CX0 P w K mg base nNet "_law_net" (defScope sNet) f cdv A outer s H E).nox netScope [("_law_points", s.heap.objs.size + 3), ("_law_kind", s.heap.objs.size + 4), ("_law_draws_here", s.heap.objs.size + 1), ("_law_at", s.heap.objs.size + 2)]
      ["_law_k", "_law_at", "_law_draws_here", "_law_kind", "_law_points"] [none, some 1, some 0, some 3, some 2] := by
  refine ⟨rfl, rfl, by decide +kernel, by decide +kernel, fun p hp => ?_, fun y hy e => ?_, ⟨rfl, rfl, rfl⟩, ⟨rfl, rfl, rfl⟩, ⟨rfl, rfl, rfl⟩, ⟨rfl, rfl, rfl⟩, trivial⟩
  · simp only [List.mem_cons, List.not_mem_nil, or_false] at hp
    rcases hp with rfl | rfl | rfl | rfl <;> rfl
  · have hy' : y ∈ [((PySem.Str.ofString ".0" : Str), NameKind.local), (PySem.Str.ofString "_law_k", .local), (PySem.Str.ofString "_law_tie", .globalImplicit), (PySem.Str.ofString "_law_draw", .globalImplicit), (PySem.Str.ofString "_law_at", .free), (PySem.Str.ofString "_law_draws_here", .free), (PySem.Str.ofString "_law_kind", .free), (PySem.Str.ofString "_law_points", .free)] := hy
    simp only [List.mem_cons, List.not_mem_nil, or_false] at hy'
    rcases hy' with rfl | rfl | rfl | rfl | rfl | rfl | rfl | rfl <;> first | rfl | cases e
theorem ok_net {f : Addr} {fd : FuncData} (F : Fun K "_law_net" "_law_net" sNet f fd) (T : Bi mg) (FD : FnE P w K mg base "_law_draw" ["_law_draws_here", "_law_k"] 1 (spDraw K)) (FT : FnE P w K mg base "_law_tie" ["_law_number", "_law_k", "_law_points", "_law_kind"] 1 spTie) : FnOk P w K mg base CX0 2 f fd ["_law_draws_here", "_law_at"] (spNet K) := by
  refine F.ok scNet (fun vs H Q E h => ?_) (fun cdv A outer s H vs Q E hr h => ?_)
  · obtain ⟨a, ns, rfl, _⟩ := h
    rfl
  · obtain ⟨a, ns, rfl, hS, hl, q⟩ := h
    obtain ⟨t4, h4, r4⟩ : ∃ t, PSs (cxOf CX0 P w K mg base nNet "_law_net" (defScope sNet) f cdv A outer s H E).nox ((defBody sNet).drop 4) t ∧ ∀ pt kd : Int, 2 ≤ pt → pt ≤ 60 →
        t { nx := fun _ H' => Q .non H', rt := Q } [some (.ref a), some (.int 8), some (.int pt), some (.int kd), none] H := by
      refine ⟨_, pss_cons (ps_set (i := 4) scNet.nd rfl (Or.inl rfl) (pe_op op_mod (pe_fc FD hr (pa_c (pv 0) (pa_c (pe_op op_add (pv 1) pe_int) pa_nil))) pe_int))
        (pss_one (ps_ret (pe_tupS (pa_c (pv 2) (pa_c (pe_callTy call_tuple_ofS rfl T.tuple bTuple (pa_c (pe_lcR blkNet rfl rfl T.range (pa_c (pv 4) pa_nil) (monoA_cons (mono_var 4) monoA_nil) rfl (fun C fp s H => pg_name (i := 0) ndNet rfl (Or.inl rfl)) (fun C fp s H => pts_nil)
          (fun C fp s H => pe_fc FT hr (pa_c (pe_fc FD hr (pa_c (pv 2) (pa_c (pe_op op_add (pe_op op_add (pv 1) pe_int) (pv 0)) pa_nil))) (pa_c (pv 0) (pa_c (pv 4) (pa_c (pv 3) pa_nil)))))) pa_nil)) pa_nil))))), fun pt kd p2 p60 => ?_⟩
      refine ⟨_, rfl, _, rfl, _, _, rfl, rfl, a, ns, _, rfl, hS, hl, by decide, by decide, _, _, rfl, rfl, (by show (0 : Int) < 41; decide), ?_⟩
      have d1 := mod_lo (n := drw ns (8 + 2)) (p := 41) (by decide)
      have d2 := mod_hi (n := drw ns (8 + 2)) (p := 41) (by decide)
      obtain ⟨mm, hmm, hm40⟩ : ∃ m : Nat, drw ns (8 + 2) % 41 = (m : Int) ∧ m ≤ 40 := ⟨(drw ns (8 + 2) % 41).toNat, by omega, by omega⟩
      dsimp only [gName]
      rw [hmm]
      refine ⟨_, rfl, _, rfl, mm, rfl, by omega, fun i ys σ H' => Same H H' ∧ ys.length = i ∧ Ties H' pt ys ∧ ∃ v0, σ = [v0, some (.int 8), some (.ref a), some (.int kd), some (.int pt)], ⟨Same.refl H, rfl, (fun t ht => by cases ht), none, rfl⟩, fun i ys σ H' hi ⟨_, e, _⟩ => by omega, fun i ys σ H' hi ⟨s1, e1, hT, v0, e⟩ => ?_, fun ys σ H' ⟨s1, e1, hT, _⟩ l H2 s2 hl2 => ?_⟩
      · subst e
        dsimp only [gName, tTrue]
        refine iteT ⟨_, rfl, _, rfl, _, _, rfl, rfl, _, rfl, _, _, rfl, rfl, a, ns, _, rfl, s1.seq hS, hl, by omega, by omega, _, rfl, _, rfl, _, rfl, _, _, _, _, rfl, drw_nn hl _, by omega, p2, p60, fun x y t H3 x0 x1 y0 y1 ne s3 ht => ⟨Same.trans s1 s3, by rw [List.length_append, e1]; rfl, fun u hu => ?_, _, rfl⟩⟩
        rcases List.mem_append.mp hu with z | z
        · exact (hT u z).same s3
        · rw [List.mem_singleton.mp z]
          exact ⟨t, x, y, rfl, ht, x0, x1, y0, y1, ne⟩
      · refine ⟨l, _, rfl, .inl hl2, fun u H3 s3 hu => ⟨rfl, fun p H4 s4 hp => ?_⟩⟩
        have sA : Same H' H4 := Same.trans (Same.trans s2 s3) s4
        obtain ⟨es, N⟩ := netZ_of (n := pt) hp (s4 _ _ hu) (by omega) (hT.same sA) (by omega) (by omega) (Int.le_refl _)
        exact q H4 p _ u _ es (Same.trans s1 sA) N (by omega) (by have := N.len; omega)
    obtain ⟨t3, h3, r3⟩ : ∃ t, PSs (cxOf CX0 P w K mg base nNet "_law_net" (defScope sNet) f cdv A outer s H E).nox ((defBody sNet).drop 3) t ∧ ∀ pt kd : Int, 2 ≤ pt → pt ≤ 60 →
        t { nx := fun _ H' => Q .non H', rt := Q } [some (.ref a), some (.int 8), some (.int pt), some (.int kd), none] H := by
      refine ⟨_, pss_cons (ps_if (pt_cmpR op_eq (pv 3) pe_int (nomark _)) (pss_one (ps_set (i := 2) scNet.nd rfl (Or.inr rfl) pe_int)) pss_nil) h4, fun pt kd p2 p60 => ?_⟩
      refine ⟨_, rfl, rfl, _, rfl, ?_⟩
      refine ite2 (fun _ => ?_) (fun _ => ?_)
      · exact r4 60 kd (by decide) (by decide)
      · exact r4 pt kd p2 p60
    refine ⟨_, pss_cons (ps_set (i := 2) scNet.nd rfl (Or.inr rfl) (pe_op op_add pe_int (pe_op op_mod (pe_fc FD hr (pa_c (pv 0) (pa_c (pv 1) pa_nil))) pe_int)))
      (pss_cons (ps_set (i := 3) scNet.nd rfl (Or.inr rfl) (pe_op op_mod (pe_fc FD hr (pa_c (pv 0) (pa_c (pe_op op_add (pv 1) pe_int) pa_nil))) pe_int))
      (pss_cons (ps_if (pt_cmpR op_eq (pv 3) pe_int (nomark _)) (pss_one (ps_set (i := 2) scNet.nd rfl (Or.inr rfl) (pe_op op_add pe_int (pe_op op_mod (pv 2) pe_int)))) pss_nil) h3)), ?_⟩
    have d1 := mod_lo (n := drw ns 8) (p := 12) (by decide)
    have d2 := mod_hi (n := drw ns 8) (p := 12) (by decide)
    have d3 := mod_lo (n := 2 + drw ns 8 % 12) (p := 3) (by decide)
    have d4 := mod_hi (n := 2 + drw ns 8 % 12) (p := 3) (by decide)
    refine ⟨_, rfl, _, rfl, a, ns, _, rfl, hS, hl, by decide, by decide, _, _, rfl, rfl, (by show (0 : Int) < 12; decide), _, _, rfl, rfl, ?_⟩
    refine ⟨_, rfl, _, rfl, _, _, rfl, rfl, a, ns, _, rfl, hS, hl, by decide, by decide, _, _, rfl, rfl, (by show (0 : Int) < 6; decide), ?_⟩
    refine ⟨_, rfl, rfl, _, rfl, ?_⟩
    refine ite2 (fun _ => ?_) (fun _ => ?_)
    · exact ⟨_, rfl, _, _, rfl, rfl, (by show (0 : Int) < 3; decide), _, _, rfl, rfl, r3 _ _ (by omega) (by omega)⟩
    · exact r3 _ _ (by omega) (by omega)
end
end My
set_option Elab.async false
set_option linter.all false
set_option maxRecDepth 100000
set_option maxHeartbeats 4000000
namespace My
open PySem L2
def forB : Stmt → List Stmt
  | .For _ _ b _ _ => b
  | _ => []
section
variable {P : Program} {w : World} {K : PySem.W.Frag} {mg : Str → Option Value} {base : Heap}
abbrev sTs : Stmt := top 12
abbrev nTs : List Str := ["_law_draws_here", "_law_at", "_law_net_here", "_law_many", "_law_taken_here", "_law_found", "_law_k", "_law_number", "_law_mine", "_law_step", "_law_tint"]
def spTs (K : PySem.W.Frag) : Sp := fun vs H Q _ => ∃ (a : Addr) (ns : List Int) (p : Addr) (n : Nat) (q : Addr) (ts : List V) (es : List (Nat × Nat)) (m : Nat), vs = [.ref a, .int 100, .ref p, .int (m : Int)] ∧ SqL K H a (ns.map V.int) ∧ Dr ns ∧ NetZ H p n q ts es ∧ 1 ≤ m ∧ m ≤ 1000 ∧ es.length ≤ 40 ∧
  ∀ (H' : Hp) (l : Addr) (tl : List (Option Nat)), Same H H' → H' l = some (.tup (tv tl)) → tl.length = es.length → (∀ t, some t ∈ tl → t < m) → CleanTo es tl es.length → Q (.ref l) H'
theorem scTs : FnScope nTs ["_law_draws_here", "_law_at", "_law_net_here", "_law_many"] (defScope sTs) := ⟨rfl, rfl, rfl, by decide +kernel, rfl, by decide +kernel, by decide +kernel⟩
theorem ok_ts {f : Addr} {fd : FuncData} (F : Fun K "_law_tints" "_law_tints" sTs f fd) (T : Bi mg) (FD : FnE P w K mg base "_law_draw" ["_law_draws_here", "_law_k"] 1 (spDraw K)) : FnOk P w K mg base CX0 2 f fd ["_law_draws_here", "_law_at", "_law_net_here", "_law_many"] (spTs K) := by
  refine F.ok scTs (fun vs H Q E h => ?_) (fun cdv A outer s H vs Q E hr h => ?_)
  · obtain ⟨a, ns, p, n, q, ts, es, m, rfl, _⟩ := h
    rfl
  · obtain ⟨a, ns, p, n, qa, ts, es, m, rfl, hS, hl, N, m1, m1000, h40, q⟩ := h
    have hu := hu_of hr
    obtain ⟨tT, hTT, rT⟩ : ∃ t, PSs (cxOf CX0 P w K mg base nTs "_law_tints" (defScope sTs) f cdv A outer s H E).nox ((forB (stOf 12 2)).drop 3) t ∧
        ∀ (D : Ends) (k : Nat) (kvs : List (List Key × V)) (tl : List (Option Nat)) (mine : Option Nat) (G : Hp) (v7 v9 v10 : Option V) {d l tk : Addr}, k < es.length → ts[k]? = some (.ref tk) → H tk = some (.tup [.int ((es.getD k (0, 0)).1 : Int), .int ((es.getD k (0, 0)).2 : Int)]) →
          Same H G → G d = some (.dT kvs) → G l = some (.lst (tv tl)) → kvs.length ≤ 2 * k → tl.length = k → (∀ t, some t ∈ tl → t < m) → CleanTo es tl k → Keys kvs (Used es tl k) → (∀ t, mine = some t → t < m ∧ ¬ Used es tl k (es.getD k (0, 0)).1 t ∧ ¬ Used es tl k (es.getD k (0, 0)).2 t) → H d = none → H l = none →
          (∀ (G' : Hp) (kvs' : List (List Key × V)) (tl' : List (Option Nat)), Same H G' → G' d = some (.dT kvs') → G' l = some (.lst (tv tl')) → kvs'.length ≤ 2 * (k + 1) → tl'.length = k + 1 → (∀ t, some t ∈ tl' → t < m) → CleanTo es tl' (k + 1) → Keys kvs' (Used es tl' (k + 1)) →
            D.nx [some (.ref a), some (.int 100), some (.ref p), some (.int (m : Int)), some (.ref d), some (.ref l), some (.int (0 + (k : Int))), v7, some (tN mine), v9, v10] G') →
          t D [some (.ref a), some (.int 100), some (.ref p), some (.int (m : Int)), some (.ref d), some (.ref l), some (.int (0 + (k : Int))), v7, some (tN mine), v9, v10] G := by
      refine ⟨_, (pss_cons (ps_if (pt_cmpR op_notN (pv 8) pe_non (nomark _))
          (pss_cons (ps_dput hu (pv 4) (pe_tupS (pa_c (pe_ix ix_tup (pe_ix ix_tup (pe_ix ix_tup (pv 2) pe_int (fun _ _ => rfl)) (pv 6) (fun _ _ => rfl)) pe_int (fun _ _ => rfl)) (pa_c (pv 8) pa_nil))) pe_bl rfl)
          (pss_one (ps_dput hu (pv 4) (pe_tupS (pa_c (pe_ix ix_tup (pe_ix ix_tup (pe_ix ix_tup (pv 2) pe_int (fun _ _ => rfl)) (pv 6) (fun _ _ => rfl)) pe_int (fun _ _ => rfl)) (pa_c (pv 8) pa_nil))) pe_bl rfl))) pss_nil)
        (pss_one (ps_expr (pe_bm PySem.F.plainAttrs_list PySem.F.slot_list_append PySem.F.type_list_append mt_append (pv 5) (pa_c (pv 8) pa_nil))))), fun D k kvs tl mine G v7 v9 v10 {d l tk} hke htk hta sG gD gL hkv htl hb hC hK gm hd hlH fin => ?_⟩
      have h200 := N.l200
      have hgl : tl[k]? = none := List.getElem?_eq_none (by omega)
      have happ : (tl ++ [mine])[k]? = some mine := by rw [List.getElem?_append_right (by omega), htl, Nat.sub_self]; rfl
      have tvapp : tv tl ++ [tN mine] = tv (tl ++ [mine]) := by unfold tv; rw [List.map_append]; rfl
      have hsz : (tv tl).length < sizeLine := by rw [tv_len, sizeLine_eq]; omega
      refine ⟨_, rfl, rfl, _, rfl, ?_⟩
      cases mine with
      | none =>
        refine iteF ?_
        refine ⟨_, rfl, .inl ⟨rfl, _, SqL.of gL⟩, _, rfl, l, _, _, rfl, rfl, gL, hsz, ?_⟩
        rw [show (V.non : V) = tN none from rfl, tvapp]
        have hdl : d ≠ l := fun z => by rw [z, gL] at gD; cases gD
        refine fin _ kvs (tl ++ [none]) (sG.wr hlH) (by rw [upd_ne hdl]; exact gD) upd_same (by omega) (by rw [List.length_append, htl]; rfl) (fun t ht => ?_) ((hC.app (by omega)).succ fun t z => ?_) (hK.iff fun x t => ?_)
        · rcases List.mem_append.mp ht with z | z
          · exact hb t z
          · rw [List.mem_singleton] at z; cases z
        · rw [happ] at z; cases z
        · rw [Used.succ, Used.app (by omega), happ]
          exact ⟨.inl, fun z => z.elim id fun ⟨z1, _⟩ => by cases z1⟩
      | some t =>
        obtain ⟨tm, nu1, nu2⟩ := gm t rfl
        refine iteT ?_
        have hdl : d ≠ l := fun z => by rw [z, gL] at gD; cases gD
        refine ⟨_, rfl, _, rfl, p, _, _, _, rfl, rfl, SqT.of (sG _ _ N.e1), rfl, _, rfl, qa, _, _, _, rfl, rfl, SqT.of (sG _ _ N.e2), (by rw [Int.zero_add]; exact atI_nat htk), tk, _, _, _, rfl, rfl, SqT.of (sG _ _ hta), rfl, _, rfl, rfl, fun t1 G1 u1 h1 => ⟨d, _, rfl, DPut.t (k := ky (es.getD k (0, 0)).1 t) (u1 _ _ gD) h1 (by rw [sizeLine_eq]; omega), ?_⟩⟩
        have l1 := length_putK kvs (ky (es.getD k (0, 0)).1 t) (V.bl true)
        have s1 : Same H (upd G1 d (.dT (putK kvs (ky (es.getD k (0, 0)).1 t) (V.bl true)))) := (Same.trans sG u1).wr hd
        refine ⟨_, rfl, _, rfl, p, _, _, _, rfl, rfl, SqT.of (s1 _ _ N.e1), rfl, _, rfl, qa, _, _, _, rfl, rfl, SqT.of (s1 _ _ N.e2), (by rw [Int.zero_add]; exact atI_nat htk), tk, _, _, _, rfl, rfl, SqT.of (s1 _ _ hta), rfl, _, rfl, rfl, fun t2 G2 u2 h2 => ⟨d, _, rfl, DPut.t (k := ky (es.getD k (0, 0)).2 t) (u2 _ _ upd_same) h2 (by rw [sizeLine_eq]; omega), ?_⟩⟩
        have l2 := length_putK (putK kvs (ky (es.getD k (0, 0)).1 t) (V.bl true)) (ky (es.getD k (0, 0)).2 t) (V.bl true)
        have gL2 : (upd G2 d (.dT (putK (putK kvs (ky (es.getD k (0, 0)).1 t) (V.bl true)) (ky (es.getD k (0, 0)).2 t) (V.bl true)))) l = some (.lst (tv tl)) := by
          rw [upd_ne (Ne.symm hdl)]
          exact u2 _ _ (by rw [upd_ne (Ne.symm hdl)]; exact u1 _ _ gL)
        refine ⟨_, rfl, .inl ⟨rfl, _, SqL.of gL2⟩, _, rfl, l, _, _, rfl, rfl, gL2, hsz, ?_⟩
        rw [tvapp]
        refine fin _ _ (tl ++ [some t]) (((Same.trans s1 u2).wr hd).wr hlH) (by rw [upd_ne hdl, upd_same]) upd_same (by omega) (by rw [List.length_append, htl]; rfl) (fun t' ht => ?_) ((hC.app (by omega)).succ fun t' z x hx => ?_) (((hK.put _ _ _).put _ _ _).iff fun x t' => ?_)
        · rcases List.mem_append.mp ht with z | z
          · exact hb t' z
          · rw [List.mem_singleton] at z; cases z; exact tm
        · rw [happ] at z
          cases z
          rw [Used.app (by omega)]
          rcases hx with rfl | rfl
          · exact nu1
          · exact nu2
        · rw [Used.succ, Used.app (by omega), happ]
          constructor
          · rintro ((z | ⟨rfl, rfl⟩) | ⟨rfl, rfl⟩)
            · exact .inl z
            · exact .inr ⟨rfl, .inl rfl⟩
            · exact .inr ⟨rfl, .inr rfl⟩
          · rintro (z | ⟨z, hx⟩)
            · exact .inl (.inl z)
            · cases z
              rcases hx with rfl | rfl
              · exact .inl (.inr ⟨rfl, rfl⟩)
              · exact .inr ⟨rfl, rfl⟩
    refine ⟨_, pss_cons (ps_set (i := 4) scTs.nd rfl (Or.inl rfl) pe_dnewT)
      (pss_cons (ps_set (i := 5) scTs.nd rfl (Or.inl rfl) (pe_lst pa_nil))
      (pss_cons (ps_for PassesOwn.never rfl (pi_range1 rfl T.range (pa_c (pe_callB call_len_seq rfl T.len bLen (pa_c (pe_ix ix_tup (pv 2) pe_int (fun _ _ => rfl)) pa_nil)) pa_nil)) (pg_name (i := 6) scTs.nd rfl (Or.inl rfl))
        (pss_cons (ps_set (i := 7) scTs.nd rfl (Or.inl rfl) (pe_fc FD hr (pa_c (pv 0) (pa_c (pe_op op_add (pv 1) (pv 6)) pa_nil))))
        (pss_cons (ps_set (i := 8) scTs.nd rfl (Or.inl rfl) pe_non)
        (pss_cons (ps_if (pt_cmpR op_gt (pe_op op_mod (pv 7) pe_int) pe_int (nomark _))
          (pss_one (ps_for PassesOwn.never rfl (pi_range1 rfl T.range (pa_c (pv 3) pa_nil)) (pg_name (i := 9) scTs.nd rfl (Or.inl rfl))
            (pss_cons (ps_set (i := 10) scTs.nd rfl (Or.inl rfl) (pe_op op_mod (pe_op op_add (pe_op op_fdiv (pv 7) pe_int) (pv 9)) (pv 3)))
            (pss_one (ps_if (PW.pt (pw_and (pt_cmpR op_isN (pv 8) pe_non (nomark _))
              (pw_and (pt_cmp (pc_dnotin hu (pe_tupS (pa_c (pe_ix ix_tup (pe_ix ix_tup (pe_ix ix_tup (pv 2) pe_int (fun _ _ => rfl)) (pv 6) (fun _ _ => rfl)) pe_int (fun _ _ => rfl)) (pa_c (pv 10) pa_nil))) (pv 4)))
              (pw_and1 (pt_cmp (pc_dnotin hu (pe_tupS (pa_c (pe_ix ix_tup (pe_ix ix_tup (pe_ix ix_tup (pv 2) pe_int (fun _ _ => rfl)) (pv 6) (fun _ _ => rfl)) pe_int (fun _ _ => rfl)) (pa_c (pv 10) pa_nil))) (pv 4)))))))
              (pss_one (ps_set (i := 8) scTs.nd rfl (Or.inl rfl) (pv 10))) pss_nil))))) pss_nil)
        hTT))))
      (pss_one (ps_ret (pe_callTy call_tuple_ofS rfl T.tuple bTuple (pa_c (pv 5) pa_nil)))))), ?_⟩
    have h200 := N.l200
    have hlen := N.len
    intro d hd
    refine ⟨Nat.zero_le _, fun l hl0 => ?_⟩
    have hdl : d ≠ l := fun z => by subst z; rw [upd_same] at hl0; cases hl0
    have hlH : H l = none := (same_new hd).none hl0
    have s0 : Same H (upd (upd H d (.dT [])) l (.lst [])) := (same_new hd).wr hlH
    refine ⟨_, rfl, p, _, _, _, rfl, rfl, SqT.of (s0 _ _ N.e1), rfl, qa, _, rfl, .inr (SqT.of (s0 _ _ N.e2)), _, rfl, by omega, by omega, for_range (lo := 0) (n := ((ts.length : Nat) : Int).toNat) (fun k σ H' => ∃ kvs tl v6 v7 v8 v9 v10, σ = [some (.ref a), some (.int 100), some (.ref p), some (.int (m : Int)), some (.ref d), some (.ref l), v6, v7, v8, v9, v10] ∧ Same H H' ∧ H' d = some (.dT kvs) ∧ H' l = some (.lst (tv tl)) ∧ kvs.length ≤ 2 * k ∧ tl.length = k ∧ (∀ t, some t ∈ tl → t < m) ∧ CleanTo es tl k ∧ Keys kvs (Used es tl k))
      ⟨[], [], _, _, _, _, _, rfl, s0, (by rw [upd_ne hdl, upd_same]), upd_same, Nat.le_refl _, rfl, (fun t ht => by cases ht), CleanTo.zero _ _, fun p t => ⟨(fun z => by cases z), fun z => absurd z Used.zero⟩⟩ (fun k σ H' hk ⟨kvs, tl, v6, v7, v8, v9, v10, e, sH, hD, hL, hkv, htl, hb, hC, hK⟩ => ?_) (fun σ H' ⟨kvs, tl, v6, v7, v8, v9, v10, e, sH, hD, hL, hkv, htl, hb, hC, hK⟩ => ?_)⟩
    · subst e
      have hke : k < es.length := by omega
      obtain ⟨tk, htk, hta⟩ := N.at' hke
      refine ⟨_, rfl, _, rfl, _, rfl, _, _, rfl, rfl, a, ns, _, rfl, sH.seq hS, hl, by omega, by omega, ?_⟩
      refine ⟨_, rfl, _, _, rfl, rfl, (by show (0 : Int) < 6; decide), _, _, rfl, rfl, _, rfl, ?_⟩
      refine ite2 (fun _ => ?_) (fun _ => ?_)
      · refine ⟨_, rfl, _, rfl, by omega, by omega, for_range (lo := 0) (n := ((m : Nat) : Int).toNat) (fun st σ G => ∃ (mine : Option Nat) (w9 w10 : Option V), σ = [some (.ref a), some (.int 100), some (.ref p), some (.int (m : Int)), some (.ref d), some (.ref l), some (.int (0 + (k : Int))), some (.int (drw ns (100 + (0 + (k : Int))))), some (tN mine), w9, w10] ∧ Same H G ∧ G d = some (.dT kvs) ∧ G l = some (.lst (tv tl)) ∧ ∀ t, mine = some t → t < m ∧ ¬ Used es tl k (es.getD k (0, 0)).1 t ∧ ¬ Used es tl k (es.getD k (0, 0)).2 t)
          ⟨none, _, _, rfl, sH, hD, hL, fun t z => by cases z⟩ (fun st σ G hst ⟨mine, w9, w10, e, sG, gD, gL, gm⟩ => ?_) (fun σ G ⟨mine, w9, w10, e, sG, gD, gL, gm⟩ => ?_)⟩
        · subst e
          obtain ⟨t, ht, htm⟩ : ∃ t : Nat, (drw ns (100 + (0 + (k : Int))) / 6 + (0 + (st : Int))) % (m : Int) = (t : Int) ∧ t < m := by
            have z1 := mod_lo (n := drw ns (100 + (0 + (k : Int))) / 6 + (0 + (st : Int))) (p := (m : Int)) (by omega)
            have z2 := mod_hi (n := drw ns (100 + (0 + (k : Int))) / 6 + (0 + (st : Int))) (p := (m : Int)) (by omega)
            exact ⟨((drw ns (100 + (0 + (k : Int))) / 6 + (0 + (st : Int))) % (m : Int)).toNat, by omega, by omega⟩
          refine ⟨_, rfl, _, _, rfl, rfl, ⟨by decide, by decide⟩, _, rfl, _, _, rfl, rfl, _, rfl, _, _, rfl, rfl, (by show (0 : Int) < (m : Int); omega), ?_⟩
          dsimp only [gName]
          rw [ht]
          refine ⟨_, rfl, rfl, _, rfl, ?_⟩
          refine ite2 (fun hz => ?_) (fun hz => ?_)
          · refine ⟨_, rfl, p, _, _, _, rfl, rfl, SqT.of (sG _ _ N.e1), rfl, _, rfl, qa, _, _, _, rfl, rfl, SqT.of (sG _ _ N.e2), (by rw [Int.zero_add]; exact atI_nat htk), tk, _, _, _, rfl, rfl, SqT.of (sG _ _ hta), rfl, _, rfl, rfl, fun t1 G1 u1 h1 => ⟨_, rfl, d, _, rfl, DGet.t (k := ky (es.getD k (0, 0)).1 t) (u1 _ _ gD) h1, _, rfl, ?_⟩⟩
            refine ite2 (fun hz1 => ?_) (fun hz1 => ?_)
            · refine ⟨_, rfl, p, _, _, _, rfl, rfl, SqT.of (u1 _ _ (sG _ _ N.e1)), rfl, _, rfl, qa, _, _, _, rfl, rfl, SqT.of (u1 _ _ (sG _ _ N.e2)), (by rw [Int.zero_add]; exact atI_nat htk), tk, _, _, _, rfl, rfl, SqT.of (u1 _ _ (sG _ _ hta)), rfl, _, rfl, rfl, fun t2 G2 u2 h2 => ⟨_, rfl, d, _, rfl, DGet.t (k := ky (es.getD k (0, 0)).2 t) (u2 _ _ (u1 _ _ gD)) h2, _, rfl, ?_⟩⟩
              refine ite2 (fun hz2 => ?_) (fun hz2 => ?_)
              · refine ⟨_, rfl, some t, _, _, rfl, Same.trans (Same.trans sG u1) u2, u2 _ _ (u1 _ _ gD), u2 _ _ (u1 _ _ gL), fun t' e' => ?_⟩
                cases e'
                refine ⟨htm, fun z => ?_, fun z => ?_⟩
                · rw [(hK _ _).mpr z] at hz1; cases hz1
                · rw [(hK _ _).mpr z] at hz2; cases hz2
              · exact ⟨mine, _, _, rfl, Same.trans (Same.trans sG u1) u2, u2 _ _ (u1 _ _ gD), u2 _ _ (u1 _ _ gL), gm⟩
            · exact iteF ⟨mine, _, _, rfl, Same.trans sG u1, u1 _ _ gD, u1 _ _ gL, gm⟩
          · exact iteF ⟨mine, _, _, rfl, sG, gD, gL, gm⟩
        · subst e
          exact rT _ k kvs tl mine G _ _ _ hke htk hta sG gD gL hkv htl hb hC hK gm hd hlH fun G' kvs' tl' h1 h2 h3 h4 h5 h6 h7 h8 => ⟨kvs', tl', _, _, _, _, _, rfl, h1, h2, h3, h4, h5, h6, h7, h8⟩
      · exact rT _ k kvs tl none H' _ _ _ hke htk hta sH hD hL hkv htl hb hC hK (fun t z => by cases z) hd hlH fun G' kvs' tl' h1 h2 h3 h4 h5 h6 h7 h8 => ⟨kvs', tl', _, _, _, _, _, rfl, h1, h2, h3, h4, h5, h6, h7, h8⟩
    · subst e
      have e : ((ts.length : Nat) : Int).toNat = es.length := by omega
      rw [e] at htl hC
      exact ⟨_, rfl, l, _, rfl, .inl hL, fun r H2 s2 hr2 => q H2 r tl (Same.trans sH s2) hr2 htl hb hC⟩
end
end My
set_option Elab.async false
set_option linter.all false
set_option maxRecDepth 100000
set_option maxHeartbeats 4000000
namespace L2
open PySem PySem.Spec PyProof.Rows
end L2
namespace My
open PySem L2
theorem in_at (p : Nat) (e : Nat × Nat) : inV (.int (p : Int)) [.int (e.1 : Int), .int (e.2 : Int)] = true ↔ At e p := by
  unfold inV At
  simp only [List.any_cons, List.any_nil, Bool.or_false, eqV, Bool.or_eq_true]
  constructor
  · rintro (h | h)
    · left; have := eq_of_beq h; omega
    · right; have := eq_of_beq h; omega
  · rintro (h | h)
    · left; exact beq_iff_eq.mpr (by rw [h])
    · right; exact beq_iff_eq.mpr (by rw [h])
theorem nl_app (l : List Nat) (x : Nat) : nl l ++ [V.int (x : Int)] = nl (l ++ [x]) := by unfold nl; rw [List.map_append]; rfl
end My
set_option Elab.async false
set_option linter.all false
set_option maxRecDepth 100000
set_option maxHeartbeats 4000000
namespace L2
open PySem PySem.Spec PyProof.Rows
theorem for_enum {K : PySem.W.Frag} {a : Addr} {xs : List V} {g : TG} {tb : TS} {D : Ends} {σ : St} {H : Hp} (Pv : Nat → St → Hp → Prop) (h0 : Pv 0 σ H) (hl : ∀ i σ H, i ≤ xs.length → Pv i σ H → SqT K H a xs)
    (hs : ∀ i x σ H, xs[i]? = some x → Pv i σ H → ∀ T H1, Same H H1 → H1 T = some (.tup [.int i, x]) → g (.ref T) σ H1 fun σ2 H2 => tb { D with nx := Pv (i + 1), ct := Pv (i + 1), bk := D.nx } σ2 H2) (hd : ∀ σ H, Pv xs.length σ H → D.nx σ H) :
    ∃ W : Nat → Nat → St → Hp → Prop, (∃ m, W 0 m σ H) ∧ ∀ i m σ H, W i m σ H →
      ((Ite K a).stop i H ∧ D.nx σ H) ∨ ((Ite K a).go i H ∧ ∃ N : St → Hp → Prop, (∀ σ' H', N σ' H' → ∃ m', m' < m ∧ W (i + 1) m' σ' H') ∧ ∀ x H', (Ite K a).yld i H x H' → g x σ H' fun σ2 H2 => tb { D with nx := N, ct := N, bk := D.nx } σ2 H2) := by
  refine ⟨fun i m σ H => m = xs.length - i ∧ i ≤ xs.length ∧ Pv i σ H, ⟨xs.length, by simp, Nat.zero_le _, h0⟩, ?_⟩
  rintro i m σ H ⟨rfl, hi, p⟩
  have q1 := hl i σ H hi p
  by_cases hlt : i < xs.length
  · refine .inr ⟨⟨xs, xs[i], q1, by simp [hlt]⟩, Pv (i + 1), fun σ' H' p' => ⟨xs.length - (i + 1), by omega, rfl, hlt, p'⟩, fun x H' y => ?_⟩
    obtain ⟨T, u, rfl, hT, rfl, hu⟩ := y
    exact hs i u σ H (hu xs q1) p T _ (same_add hT) upd_same
  · have e : i = xs.length := by omega
    subst e
    exact .inl ⟨⟨xs, q1, Nat.le_refl _⟩, hd σ H p⟩
end L2
namespace My
open PySem L2
theorem bSorted : bootBuiltins "sorted" = some (.builtin "sorted") := by decide +kernel
def oth (e : Nat × Nat) (x : Nat) : Nat := if e.1 = x then e.2 else e.1
theorem oth_at (e : Nat × Nat) (x : Nat) : At e (oth e x) := by unfold oth At; split <;> simp
theorem at_oth {e : Nat × Nat} {x y : Nat} (hx : At e x) (hy : At e y) : y = x ∨ y = oth e x := by
  unfold At at hx hy
  unfold oth
  split <;> omega
abbrev kN (x : Nat) : Key := Sum.inl (x : Int)
theorem kN_inj {x y : Nat} (h : kN x = kN y) : x = y := by have := Sum.inl.inj h; omega
section
variable {P : Program} {w : World} {K : PySem.W.Frag} {mg : Str → Option Value} {base : Heap}
abbrev sAc : Stmt := top 1
def spAc : Sp := fun vs H Q _ => ∃ (p : Addr) (n : Nat) (q : Addr) (ts : List V) (es : List (Nat × Nat)) (k x : Nat), vs = [.ref p, .int (k : Int), .int (x : Int)] ∧ NetZ H p n q ts es ∧ k < es.length ∧ Q (.int (oth (es.getD k (0, 0)) x : Int)) H
theorem scAc : FnScope ["net", "tie", "point", "ends"] ["net", "tie", "point"] (defScope sAc) := ⟨rfl, rfl, rfl, by decide +kernel, rfl, by decide +kernel, by decide +kernel⟩
theorem ok_ac {f : Addr} {fd : FuncData} (F : Fun K "across" "across" sAc f fd) : FnOk P w K mg base CX0 1 f fd ["net", "tie", "point"] spAc := by
  refine F.ok scAc (fun vs H Q E h => ?_) (fun cdv A outer s H vs Q E hr h => ?_)
  · obtain ⟨p, n, q, ts, es, k, x, rfl, _⟩ := h
    rfl
  · obtain ⟨p, n, qa, ts, es, k, x, rfl, N, hk, q⟩ := h
    refine ⟨_, pss_cons (ps_set (i := 3) scAc.nd rfl (Or.inl rfl) (pe_ix ix_tup (pe_ix ix_tup (pv 0) pe_int (fun _ _ => rfl)) (pv 1) (fun _ _ => rfl)))
      (pss_one (ps_ret (pe_ifExp (pt_cmpR op_eq (pe_ix ix_tup (pv 3) pe_int (fun _ _ => rfl)) (pv 2) (nomark _)) (pe_ix ix_tup (pv 3) pe_int (fun _ _ => rfl)) (pe_ix ix_tup (pv 3) pe_int (fun _ _ => rfl))))), ?_⟩
    obtain ⟨a, ha, hta⟩ := N.at' hk
    refine ⟨_, rfl, p, _, _, _, rfl, rfl, SqT.of N.e1, rfl, _, rfl, qa, _, _, _, rfl, rfl, SqT.of N.e2, atI_nat ha, ?_⟩
    refine ⟨_, rfl, a, _, _, _, rfl, rfl, SqT.of hta, rfl, _, rfl, rfl, _, rfl, ?_⟩
    unfold oth at q
    refine ite2 (fun hz => ?_) (fun hz => ?_)
    · have e : (es.getD k (0, 0)).1 = x := by have := V.int.inj (of_decide_eq_true hz); omega
      rw [if_pos e] at q
      exact ⟨_, rfl, a, _, _, _, rfl, rfl, SqT.of hta, rfl, q⟩
    · have e : ¬ (es.getD k (0, 0)).1 = x := fun z => hz (decide_eq_true (by rw [z]))
      rw [if_neg e] at q
      exact ⟨_, rfl, a, _, _, _, rfl, rfl, SqT.of hta, rfl, q⟩
end
structure Rows (H0 H : Hp) (d : Addr) (kvs : List (Key × V)) (R : Nat → Nat → Prop) (b : Nat) : Prop where
  dd : H d = some (.dK kvs)
  dn : H0 d = none
  s : Same H0 H
  len : kvs.length ≤ b
  row : ∀ x v, valV kvs (kN x) = some v → ∃ l ks, v = .ref l ∧ H0 l = none ∧ H l = some (.lst (nl ks)) ∧ (∀ k, k ∈ ks ↔ R k x) ∧ ks.length ≤ b
  no : ∀ x, valV kvs (kN x) = none → ∀ k, ¬ R k x
  inj : ∀ x y l, valV kvs (kN x) = some (.ref l) → valV kvs (kN y) = some (.ref l) → x = y
theorem Rows.iff {H0 H : Hp} {d : Addr} {kvs : List (Key × V)} {R S : Nat → Nat → Prop} {b : Nat} (h : Rows H0 H d kvs R b) (e : ∀ k x, R k x ↔ S k x) : Rows H0 H d kvs S b :=
  { h with row := fun x v hv => let ⟨l, ks, a1, a2, a3, a4, a5⟩ := h.row x v hv; ⟨l, ks, a1, a2, a3, fun k => (a4 k).trans (e k x), a5⟩, no := fun x hx k => fun z => h.no x hx k ((e k x).mpr z) }
theorem Rows.same {H0 H H' : Hp} {d : Addr} {kvs : List (Key × V)} {R : Nat → Nat → Prop} {b : Nat} (h : Rows H0 H d kvs R b) (s : Same H H') : Rows H0 H' d kvs R b :=
  { h with dd := s _ _ h.dd, s := Same.trans h.s s, row := fun x v hv => let ⟨l, ks, a1, a2, a3, a4, a5⟩ := h.row x v hv; ⟨l, ks, a1, a2, s _ _ a3, a4, a5⟩ }
theorem Rows.mono {H0 H : Hp} {d : Addr} {kvs : List (Key × V)} {R : Nat → Nat → Prop} {b c : Nat} (h : Rows H0 H d kvs R b) (hb : b ≤ c) : Rows H0 H d kvs R c :=
  { h with len := Nat.le_trans h.len hb, row := fun x v hv => let ⟨l, ks, a1, a2, a3, a4, a5⟩ := h.row x v hv; ⟨l, ks, a1, a2, a3, a4, Nat.le_trans a5 hb⟩ }
theorem Rows.add {H0 H : Hp} {d l : Addr} {kvs : List (Key × V)} {R : Nat → Nat → Prop} {b x t : Nat} {ks : List Nat} (h : Rows H0 H d kvs R b) (hv : valV kvs (kN x) = some (.ref l)) (hl : H l = some (.lst (nl ks))) (hk : ∀ k, k ∈ ks ↔ R k x) (hb : ks.length ≤ b) (hn : H0 l = none) :
    Rows H0 (upd H l (.lst (nl (ks ++ [t])))) d kvs (fun k y => R k y ∨ (k = t ∧ y = x)) (b + 1) := by
  have hdl : d ≠ l := fun z => by rw [← z, h.dd] at hl; cases hl
  refine ⟨by rw [upd_ne hdl]; exact h.dd, h.dn, h.s.wr hn, by have := h.len; omega, fun y v hy => ?_, fun y hy k z => ?_, h.inj⟩
  · obtain ⟨l2, ks2, rfl, a2, a3, a4, a5⟩ := h.row y v hy
    by_cases e : y = x
    · subst e
      rw [hv] at hy
      cases hy
      refine ⟨l, ks ++ [t], rfl, hn, upd_same, fun k => ?_, by rw [List.length_append, List.length_singleton]; omega⟩
      rw [List.mem_append, List.mem_singleton, hk k]
      exact ⟨fun z => z.imp id fun z => ⟨z, rfl⟩, fun z => z.imp id fun z => z.1⟩
    · have hne : l2 ≠ l := fun z => e (h.inj y x l (by rw [← z]; exact hy) hv)
      refine ⟨l2, ks2, rfl, a2, by rw [upd_ne hne]; exact a3, fun k => ?_, by omega⟩
      rw [a4 k]
      exact ⟨.inl, fun z => z.elim id fun z => absurd z.2 e⟩
  · rcases z with z | ⟨_, z⟩
    · exact h.no y hy k z
    · rw [z, hv] at hy; cases hy
theorem Rows.new {H0 H : Hp} {d l : Addr} {kvs : List (Key × V)} {R : Nat → Nat → Prop} {b x : Nat} (h : Rows H0 H d kvs R b) (hx : valV kvs (kN x) = none) (hl : H l = some (.lst (nl []))) (hn : H0 l = none) (hnew : ∀ y, valV kvs (kN y) ≠ some (.ref l)) : Rows H0 (upd H d (.dK (putK kvs (kN x) (.ref l)))) d (putK kvs (kN x) (.ref l)) R (b + 1) := by
  have hdl : l ≠ d := fun z => by rw [z, h.dd] at hl; cases hl
  have lk := length_putK kvs (kN x) (V.ref l)
  refine ⟨upd_same, h.dn, h.s.wr h.dn, by have := h.len; omega, fun y v hy => ?_, fun y hy k => ?_, fun y z m hy hz => ?_⟩
  · rw [valV_put] at hy
    by_cases e : kN y = kN x
    · rw [if_pos e] at hy
      cases hy
      have := kN_inj e
      subst this
      exact ⟨l, [], rfl, hn, by rw [upd_ne hdl]; exact hl, fun k => ⟨fun z => (by cases z), fun z => absurd z (h.no y hx k)⟩, Nat.zero_le _⟩
    · rw [if_neg e] at hy
      obtain ⟨l2, ks2, a1, a2, a3, a4, a5⟩ := h.row y v hy
      have hne : l2 ≠ d := fun z => by rw [z, h.dd] at a3; cases a3
      exact ⟨l2, ks2, a1, a2, by rw [upd_ne hne]; exact a3, a4, by omega⟩
  · rw [valV_put] at hy
    by_cases e : kN y = kN x
    · rw [if_pos e] at hy; cases hy
    · rw [if_neg e] at hy; exact h.no y hy k
  · rw [valV_put] at hy hz
    by_cases e : kN y = kN x
    · by_cases e2 : kN z = kN x
      · exact (kN_inj e).trans (kN_inj e2).symm
      · rw [if_pos e] at hy
        rw [if_neg e2] at hz
        cases hy
        exact absurd hz (hnew z)
    · by_cases e2 : kN z = kN x
      · rw [if_neg e] at hy
        rw [if_pos e2] at hz
        cases hz
        exact absurd hy (hnew y)
      · rw [if_neg e] at hy
        rw [if_neg e2] at hz
        exact h.inj y z m hy hz
end My
set_option Elab.async false
set_option linter.all false
set_option maxRecDepth 100000
set_option maxHeartbeats 4000000
namespace My
open PySem L2
def Rel (es : List (Nat × Nat)) (tl : List (Option Nat)) (u v i k x : Nat) : Prop := k < i ∧ InP tl u v k ∧ At (es.getD k (0, 0)) x
theorem Rel.skip {es : List (Nat × Nat)} {tl : List (Option Nat)} {u v i : Nat} (h : ¬ InP tl u v i) (k x : Nat) : Rel es tl u v i k x ↔ Rel es tl u v (i + 1) k x := by
  constructor
  · rintro ⟨a, b, c⟩; exact ⟨by omega, b, c⟩
  · rintro ⟨a, b, c⟩
    by_cases e : k = i
    · subst e; exact absurd b h
    · exact ⟨by omega, b, c⟩
theorem Rel.take {es : List (Nat × Nat)} {tl : List (Option Nat)} {u v i : Nat} (h : InP tl u v i) (k x : Nat) : ((Rel es tl u v i k x ∨ (k = i ∧ x = (es.getD i (0, 0)).1)) ∨ (k = i ∧ x = (es.getD i (0, 0)).2)) ↔ Rel es tl u v (i + 1) k x := by
  constructor
  · rintro ((⟨a, b, c⟩ | ⟨rfl, rfl⟩) | ⟨rfl, rfl⟩)
    · exact ⟨by omega, b, c⟩
    · exact ⟨by omega, h, .inl rfl⟩
    · exact ⟨by omega, h, .inr rfl⟩
  · rintro ⟨a, b, c⟩
    by_cases e : k = i
    · subst e
      rcases c with rfl | rfl
      · exact .inl (.inr ⟨rfl, rfl⟩)
      · exact .inr ⟨rfl, rfl⟩
    · exact .inl (.inl ⟨by omega, b, c⟩)
def RJ (es : List (Nat × Nat)) (tl : List (Option Nat)) (u v i : Nat) : Nat → Nat → Nat → Prop
  | 0 => Rel es tl u v i
  | 1 => fun k x => Rel es tl u v i k x ∨ (k = i ∧ x = (es.getD i (0, 0)).1)
  | _ => fun k x => (Rel es tl u v i k x ∨ (k = i ∧ x = (es.getD i (0, 0)).1)) ∨ (k = i ∧ x = (es.getD i (0, 0)).2)
section
variable {P : Program} {w : World} {K : PySem.W.Frag} {mg : Str → Option Value} {base : Heap}
abbrev sTt : Stmt := top 3
abbrev nTt : List Str := ["net", "tints", "one", "other", "found", "tie", "tint", "point"]
def spTt : Sp := fun vs H Q _ => ∃ (p r : Addr) (n : Nat) (q : Addr) (ts : List V) (es : List (Nat × Nat)) (tl : List (Option Nat)) (u v : Nat), vs = [.ref p, .ref r, .int (u : Int), .int (v : Int)] ∧ NetZ H p n q ts es ∧ H r = some (.tup (tv tl)) ∧ tl.length = es.length ∧
  ∀ H' d kvs, Rows H H' d kvs (Rel es tl u v es.length) 1000 → Q (.ref d) H'
theorem scTt : FnScope nTt ["net", "tints", "one", "other"] (defScope sTt) := ⟨rfl, rfl, rfl, by decide +kernel, rfl, by decide +kernel, by decide +kernel⟩
theorem ok_tt {f : Addr} {fd : FuncData} (F : Fun K "two_tinted" "two_tinted" sTt f fd) (T : Bi mg) (hen : mg "enumerate" = none) : FnOk P w K mg base CX0 1 f fd ["net", "tints", "one", "other"] spTt := by
  refine F.ok scTt (fun vs H Q E h => ?_) (fun cdv A outer s H vs Q E hr h => ?_)
  · obtain ⟨p, r, n, q, ts, es, tl, u, v, rfl, _⟩ := h
    rfl
  · obtain ⟨p, r, n, qa, ts, es, tl, u, v, rfl, N, hR, htl, q⟩ := h
    refine ⟨_, pss_cons (ps_set (i := 4) scTt.nd rfl (Or.inl rfl) pe_dnewK)
      (pss_cons (ps_for PassesOwn.never rfl (pi_enum rfl hen (pa_c (pv 1) pa_nil) rfl) (pg_tup rfl (pgs_cons (pg_name (i := 5) scTt.nd rfl (Or.inl rfl)) (pgs_cons (pg_name (i := 6) scTt.nd rfl (Or.inl rfl)) pgs_nil)))
        (pss_one (ps_if (PW.pt (pw_or (pt_cmpR op_eq (pv 6) (pv 2) (nomark _)) (pw_or1 (pt_cmpR op_eq (pv 6) (pv 3) (nomark _)))))
          (pss_one (ps_for PassesOwn.never rfl (pi_tup (pe_ix ix_tup (pe_ix ix_tup (pv 0) pe_int (fun _ _ => rfl)) (pv 5) (fun _ _ => rfl))) (pg_name (i := 7) scTt.nd rfl (Or.inl rfl))
            (pss_one (ps_expr (pe_bm PySem.F.plainAttrs_list PySem.F.slot_list_append PySem.F.type_list_append mt_append (pe_dsetd (pv 4) (pv 7) (pe_lst pa_nil) ⟨rfl, rfl, rfl, rfl⟩) (pa_c (pv 5) pa_nil)))))) pss_nil)))
      (pss_one (ps_ret (pv 4)))), ?_⟩
    have h200 := N.l200
    have hlen := N.len
    intro d hd
    have R0 : Rows H (upd H d (.dK [])) d [] (Rel es tl u v 0) 0 := ⟨upd_same, hd, same_new hd, Nat.le_refl _, (fun x v z => by cases z), fun x _ k z => absurd z.1 (Nat.not_lt_zero _), fun x y l z => by cases z⟩
    have step : ∀ (G : Hp) (kvs : List (Key × V)) (R : Nat → Nat → Prop) (b i x : Nat) (w6 : Option V) (Qp : VK), b ≤ 900 → Rows H G d kvs R b →
        (∀ v G' kvs', Rows H G' d kvs' (fun k y => R k y ∨ (k = i ∧ y = x)) (b + 2) → Qp v G') →
        tBM K "list" rAppend (tDSetD (tVar 4) (tVar 7) (tLst tNil)) (tCons (tVar 5) tNil) [some (.ref p), some (.ref r), some (.int (u : Int)), some (.int (v : Int)), some (.ref d), some (.int (i : Int)), w6, some (.int (x : Int))] G Qp := by
      intro G kvs R b i x w6 Qp hb RR fin
      refine ⟨_, rfl, d, rfl, .inl ⟨kvs, .inl RR.dd⟩, _, rfl, Nat.zero_le _, fun l hl => ⟨kvs, kN x, same_new hl _ _ RR.dd, rfl, by have := RR.len; omega, fun y hy => ?_, fun hn => ?_⟩⟩
      · have RR1 := RR.same (same_new (o := .lst []) hl)
        obtain ⟨l2, ks, rfl, a2, a3, a4, a5⟩ := RR1.row x y hy
        refine ⟨.inl ⟨rfl, _, SqL.of a3⟩, _, rfl, l2, _, _, rfl, rfl, a3, (by rw [nl_len, sizeLine_eq]; omega), fin _ _ kvs ?_⟩
        rw [nl_app]
        exact (RR1.add hy a3 a4 a5 a2).mono (by omega)
      · have RR1 := RR.same (same_new (o := .lst []) hl)
        have hl0 : H l = none := RR.s.none hl
        have RR2 := RR1.new (l := l) hn upd_same hl0 fun y z => by
          obtain ⟨l2, ks, e1, a2, a3, _⟩ := RR.row y _ z
          cases e1
          rw [a3] at hl
          cases hl
        have hdl : l ≠ d := fun z => by rw [z, RR.dd] at hl; cases hl
        have hL : (upd (upd G l (.lst [])) d (.dK (putK kvs (kN x) (.ref l)))) l = some (.lst (nl [])) := by rw [upd_ne hdl, upd_same]; rfl
        refine ⟨.inl ⟨rfl, _, SqL.of hL⟩, _, rfl, l, _, _, rfl, rfl, hL, (by rw [nl_len, sizeLine_eq]; exact Nat.lt_of_lt_of_le (by decide) (Nat.le_refl _)), fin _ _ (putK kvs (kN x) (.ref l)) ?_⟩
        rw [nl_app]
        exact RR2.add (by rw [valV_put, if_pos rfl]) hL (fun k => ⟨fun z => (by cases z), fun z => absurd z (RR.no x hn k)⟩) (Nat.zero_le _) hl0
    refine ⟨_, rfl, r, rfl, ⟨_, SqT.of (R0.s _ _ hR)⟩, for_enum (K := K) (a := r) (xs := tv tl) (fun i σ H' => ∃ kvs v5 v6 v7, σ = [some (.ref p), some (.ref r), some (.int (u : Int)), some (.int (v : Int)), some (.ref d), v5, v6, v7] ∧ Rows H H' d kvs (Rel es tl u v i) (4 * i)) ⟨[], _, _, _, rfl, R0⟩ (fun i σ H' _ ⟨kvs, _, _, _, _, RR⟩ => SqT.of (RR.s _ _ hR)) (fun i x σ H' hx ⟨kvs, v5, v6, v7, e, RR⟩ TT H1 s1 hTT => ?_) (fun σ H' ⟨kvs, v5, v6, v7, e, RR⟩ => ?_)⟩
    · subst e
      obtain ⟨o, ho, rfl⟩ := tv_inv hx
      have hit : i < tl.length := (List.getElem?_eq_some_iff.mp ho).1
      have hie : i < es.length := by omega
      obtain ⟨a, ha, hta⟩ := N.at' hie
      have RR1 := RR.same s1
      refine ⟨TT, _, rfl, SqT.of hTT, rfl, _, _, rfl, _, _, rfl, rfl, ?_⟩
      have inner : ∀ (t : Nat) (Dn : Ends), InP tl u v i → (∀ G kvs v7, Rows H G d kvs (Rel es tl u v (i + 1)) (4 * (i + 1)) → Dn.nx [some (.ref p), some (.ref r), some (.int (u : Int)), some (.int (v : Int)), some (.ref d), some (.int (i : Int)), some (.int (t : Int)), v7] G) →
          tFor (iTup K (tOp (rIxT K) (tOp (rIxT K) (tVar 0) (tC (.int 1))) (tVar 5))) (gName 7) (fun D σ H => tBM K "list" rAppend (tDSetD (tVar 4) (tVar 7) (tLst tNil)) (tCons (tVar 5) tNil) σ H fun _ H' => D.nx σ H') Dn [some (.ref p), some (.ref r), some (.int (u : Int)), some (.int (v : Int)), some (.ref d), some (.int (i : Int)), some (.int (t : Int)), v7] H1 := by
        intro t Dn hin fin
        refine ⟨_, rfl, p, _, _, _, rfl, rfl, SqT.of (RR1.s _ _ N.e1), rfl, _, rfl, qa, _, _, _, rfl, rfl, SqT.of (RR1.s _ _ N.e2), atI_nat ha, a, rfl, ⟨_, SqT.of (RR1.s _ _ hta)⟩, for_tup (K := K) (a := a) (xs := [.int ((es.getD i (0, 0)).1 : Int), .int ((es.getD i (0, 0)).2 : Int)]) (g := gName 7) (tb := fun D σ H => tBM K "list" rAppend (tDSetD (tVar 4) (tVar 7) (tLst tNil)) (tCons (tVar 5) tNil) σ H fun _ H' => D.nx σ H') (D := Dn)
          (fun j σ G => ∃ kvs' w7, σ = [some (.ref p), some (.ref r), some (.int (u : Int)), some (.int (v : Int)), some (.ref d), some (.int (i : Int)), some (.int (t : Int)), w7] ∧ Rows H G d kvs' (RJ es tl u v i j) (4 * i + 2 * j))
          ⟨kvs, _, rfl, RR1⟩ (fun j σ G _ ⟨_, _, _, RG⟩ => SqT.of (RG.s _ _ hta)) (fun j x σ G hx' ⟨kvs', w7, e, RG⟩ => ?_) (fun σ G ⟨kvs', w7, e, RG⟩ => ?_)⟩
        · subst e
          match j, hx' with
          | 0, hx' =>
            cases hx'
            exact step G kvs' _ (4 * i + 2 * 0) i _ _ _ (by omega) RG fun _ G' kvs2 R2 => ⟨kvs2, _, rfl, R2⟩
          | 1, hx' =>
            cases hx'
            exact step G kvs' _ (4 * i + 2 * 1) i _ _ _ (by omega) RG fun _ G' kvs2 R2 => ⟨kvs2, _, rfl, R2⟩
        · subst e
          exact fin G kvs' _ ((RG.iff fun k x => Rel.take hin k x).mono (by show 4 * i + 2 * 2 ≤ 4 * (i + 1); omega))
      cases o with
      | none =>
        have hnot : ¬ InP tl u v i := fun z => by rcases z with z | z <;> rw [ho] at z <;> cases z
        refine ⟨_, rfl, _, rfl, rfl, _, rfl, iteF ?_⟩
        refine ⟨_, rfl, _, rfl, rfl, _, rfl, iteF ?_⟩
        exact ⟨kvs, _, _, _, rfl, (RR1.iff (Rel.skip hnot)).mono (by omega)⟩
      | some t =>
        refine ⟨_, rfl, _, rfl, rfl, _, rfl, ?_⟩
        refine ite2 (fun hz => ?_) (fun hz => ?_)
        · have e : t = u := by have := V.int.inj (of_decide_eq_true hz); omega
          subst e
          exact iteT (inner t _ (.inl ho) fun G kvs2 w7 R2 => ⟨kvs2, _, _, _, rfl, R2⟩)
        · have ne1 : t ≠ u := fun z => hz (decide_eq_true (by subst z; rfl))
          refine ⟨_, rfl, _, rfl, rfl, _, rfl, ?_⟩
          refine ite2 (fun hz2 => ?_) (fun hz2 => ?_)
          · have e : t = v := by have := V.int.inj (of_decide_eq_true hz2); omega
            subst e
            exact inner t _ (.inr ho) fun G kvs2 w7 R2 => ⟨kvs2, _, _, _, rfl, R2⟩
          · have ne2 : t ≠ v := fun z => hz2 (decide_eq_true (by subst z; rfl))
            have hnot : ¬ InP tl u v i := fun z => by
              rcases z with z | z <;> rw [ho] at z <;> have := Option.some.inj (Option.some.inj z)
              · exact ne1 this
              · exact ne2 this
            exact ⟨kvs, _, _, _, rfl, (RR1.iff (Rel.skip hnot)).mono (by omega)⟩
    · subst e
      rw [tv_len, htl] at RR
      exact ⟨_, rfl, q H' d kvs (RR.mono (by omega))⟩
end
end My
set_option Elab.async false
set_option linter.all false
set_option maxRecDepth 100000
set_option maxHeartbeats 4000000
namespace My
open PySem L2
theorem Walk.init {es : List (Nat × Nat)} {tl : List (Option Nat)} {u v p : Nat} : Walk es tl u v p (· ∈ ([] : List Nat)) (fun _ => False) (· ∈ [p]) :=
  ⟨(fun k h => by cases h), (fun x h => by rw [List.mem_singleton.mp h]; exact .start), (fun x h => h.elim), (fun k h => by cases h), .inr (List.mem_singleton.mpr rfl)⟩
theorem Walk.pop {es : List (Nat × Nat)} {tl : List (Option Nat)} {u v p x : Nat} {F V : Nat → Prop} {w' : List Nat} (h : Walk es tl u v p F V (· ∈ w' ++ [x])) : Walk es tl u v p F V (fun y => y ∈ w' ∨ y = x) := by
  have e : ∀ y, y ∈ w' ++ [x] ↔ (y ∈ w' ∨ y = x) := fun y => by rw [List.mem_append, List.mem_singleton]
  exact ⟨h.rt, fun y hy => h.rw y ((e y).mpr hy), h.cl, fun k hk y hy => (h.en k hk y hy).imp id (e y).mp, h.st.imp id (e p).mp⟩
theorem Walk.add {es : List (Nat × Nat)} {tl : List (Option Nat)} {u v p x k : Nat} {fk wl : List Nat} {V : Nat → Prop} (h : Walk es tl u v p (· ∈ fk) V (fun y => y ∈ wl ∨ y = x)) (hk : k < es.length) (hi : InP tl u v k) (hx : At (es.getD k (0, 0)) x) :
    Walk es tl u v p (· ∈ fk ++ [k]) V (fun y => y ∈ wl ++ [oth (es.getD k (0, 0)) x] ∨ y = x) := by
  have rx := h.rw x (.inr rfl)
  have rt : RT es tl u v p k := ⟨hk, hi, x, rx, hx⟩
  refine ⟨fun j hj => ?_, fun y hy => ?_, fun y hy j h1 h2 h3 => List.mem_append_left _ (h.cl y hy j h1 h2 h3), fun j hj y hy => ?_, h.st.imp id fun z => z.imp (List.mem_append_left _) id⟩
  · rcases List.mem_append.mp hj with z | z
    · exact h.rt j z
    · rw [List.mem_singleton.mp z]; exact rt
  · rcases hy with hy | hy
    · rcases List.mem_append.mp hy with z | z
      · exact h.rw y (.inl z)
      · rw [List.mem_singleton.mp z]; exact rt.end (oth_at _ _)
    · exact h.rw y (.inr hy)
  · rcases List.mem_append.mp hj with z | z
    · exact (h.en j z y hy).imp id fun z => z.imp (List.mem_append_left _) id
    · rw [List.mem_singleton.mp z] at hy
      rcases at_oth hx hy with e | e
      · exact .inr (.inr e)
      · exact .inr (.inl (List.mem_append_right _ (List.mem_singleton.mpr e)))
theorem Walk.close {es : List (Nat × Nat)} {tl : List (Option Nat)} {u v p x : Nat} {F V : Nat → Prop} {wl : List Nat} (h : Walk es tl u v p F V (fun y => y ∈ wl ∨ y = x)) (hx : ∀ k, k < es.length → InP tl u v k → At (es.getD k (0, 0)) x → F k) :
    Walk es tl u v p F (fun y => V y ∨ y = x) (· ∈ wl) := by
  refine ⟨h.rt, fun y hy => h.rw y (.inl hy), fun y hy k h1 h2 h3 => ?_, fun k hk y hy => ?_, ?_⟩
  · rcases hy with hy | rfl
    · exact h.cl y hy k h1 h2 h3
    · exact hx k h1 h2 h3
  · rcases h.en k hk y hy with z | z | z
    · exact .inl (.inl z)
    · exact .inr z
    · exact .inl (.inr z)
  · rcases h.st with z | z | z
    · exact .inl (.inl z)
    · exact .inr z
    · exact .inl (.inr z)
theorem vin {kf : List (Key × V)} {fk : List Nat} (h : kf.map (·.1) = fk.map kN) (k : Nat) : (valV kf (kN k)).isSome = true ↔ k ∈ fk := by
  rw [← valV_any, List.any_eq_true]
  constructor
  · rintro ⟨kv, hkv, e⟩
    have e' : kv.1 = kN k := of_decide_eq_true e
    have : kv.1 ∈ fk.map kN := by rw [← h]; exact List.mem_map_of_mem hkv
    obtain ⟨j, hj, ej⟩ := List.mem_map.mp this
    rw [e'] at ej
    rw [← kN_inj ej]
    exact hj
  · intro hk
    have : kN k ∈ kf.map (·.1) := by rw [h]; exact List.mem_map_of_mem hk
    obtain ⟨kv, hkv, e⟩ := List.mem_map.mp this
    exact ⟨kv, hkv, decide_eq_true e⟩
theorem len_lt {l : List Nat} {n : Nat} (nd : l.Nodup) (h : ∀ x ∈ l, x < n) : l.length ≤ n := by
  have key : ∀ (n : Nat) (l : List Nat), l.Nodup → (∀ x ∈ l, x < n) → l.length ≤ n := by
    intro n
    induction n with
    | zero => intro l _ h; cases l with | nil => exact Nat.le_refl _ | cons x l => exact absurd (h x (.head _)) (Nat.not_lt_zero _)
    | succ n ih =>
      intro l nd h
      have h1 := ih (l.erase n) (nd.erase n) fun x hx => by
        have := (List.Nodup.mem_erase_iff nd).mp hx
        have := h x this.2
        omega
      by_cases hm : n ∈ l
      · rw [List.length_erase_of_mem hm] at h1; omega
      · rw [List.erase_of_not_mem hm] at h1; omega
  exact key n l nd h
structure ChSt (Ht G : Hp) (fo wa : Addr) (m : Nat) (fk wl : List Nat) : Prop where
  s : Same Ht G
  w : G wa = some (.lst (nl wl))
  f : ∃ kf : List (Key × V), G fo = some (.dK kf) ∧ kf.map (·.1) = fk.map kN
  nd : fk.Nodup
  lt : ∀ k ∈ fk, k < m
  bd : 2 * (m - fk.length) + wl.length ≤ 2 * m + 1
section
variable {P : Program} {w : World} {K : PySem.W.Frag} {mg : Str → Option Value} {base : Heap}
abbrev sCh : Stmt := top 4
abbrev nCh : List Str := ["net", "tints", "point", "one", "other", "ties", "found", "waiting", "here", "tie"]
def spCh : Sp := fun vs H Q _ => ∃ (p r : Addr) (n : Nat) (q : Addr) (ts : List V) (es : List (Nat × Nat)) (tl : List (Option Nat)) (pt u v : Nat), vs = [.ref p, .ref r, .int (pt : Int), .int (u : Int), .int (v : Int)] ∧ NetZ H p n q ts es ∧ H r = some (.tup (tv tl)) ∧ tl.length = es.length ∧ es.length < 64 ∧
  ∀ H' t S, Same H H' → H' t = some (.tup (nl S)) → S.Pairwise (· < ·) → (∀ k, k ∈ S ↔ RT es tl u v pt k) → Q (.ref t) H'
theorem scCh : FnScope nCh ["net", "tints", "point", "one", "other"] (defScope sCh) := ⟨rfl, rfl, rfl, by decide +kernel, rfl, by decide +kernel, by decide +kernel⟩
theorem ok_ch {f : Addr} {fd : FuncData} (F : Fun K "chain" "chain" sCh f fd) (T : Bi mg) (hso : mg "sorted" = none) (FT : FnE P w K mg base "two_tinted" ["net", "tints", "one", "other"] 1 spTt) (FA : FnE P w K mg base "across" ["net", "tie", "point"] 1 spAc) : FnOk P w K mg base CX0 2 f fd ["net", "tints", "point", "one", "other"] spCh := by
  refine F.ok scCh (fun vs H Q E h => ?_) (fun cdv A outer s H vs Q E hr h => ?_)
  · obtain ⟨p, r, n, q, ts, es, tl, pt, u, v, rfl, _⟩ := h
    rfl
  · obtain ⟨p, r, n, qa, ts, es, tl, pt, u, v, rfl, N, hR, htl, h64, q⟩ := h
    have hu := hu_of hr
    refine ⟨_, pss_cons (ps_set (i := 5) scCh.nd rfl (Or.inl rfl) (pe_fc FT hr (pa_c (pv 0) (pa_c (pv 1) (pa_c (pv 3) (pa_c (pv 4) pa_nil))))))
      (pss_cons (ps_set (i := 6) scCh.nd rfl (Or.inl rfl) pe_dnewK)
      (pss_cons (ps_set (i := 7) scCh.nd rfl (Or.inl rfl) (pe_lst (pa_c (pv 2) pa_nil)))
      (pss_cons (ps_while PassesOwn.never (pt_truth (pv 7) (fun _ => rfl))
        (pss_cons (ps_set (i := 8) scCh.nd rfl (Or.inl rfl) (pe_bm0 PySem.F.plainAttrs_list PySem.F.slot_list_pop PySem.F.type_list_pop mt_pop (pv 7)))
        (pss_one (ps_for PassesOwn.never rfl (pi_list (pe_dget2 hu (pv 5) (pv 8) (pe_lst pa_nil) ⟨rfl, rfl, rfl, rfl⟩)) (pg_name (i := 9) scCh.nd rfl (Or.inl rfl))
          (pss_one (ps_if (pt_cmp (pc_dnotin hu (pv 9) (pv 6)))
            (pss_cons (ps_dput hu (pv 6) (pv 9) pe_bl rfl)
            (pss_one (ps_expr (pe_bm PySem.F.plainAttrs_list PySem.F.slot_list_append PySem.F.type_list_append mt_append (pv 7) (pa_c (pe_fc FA hr (pa_c (pv 0) (pa_c (pv 9) (pa_c (pv 8) pa_nil)))) pa_nil))))) pss_nil))))))
      (pss_one (ps_ret (pe_callTy call_tuple_ofS rfl T.tuple bTuple (pa_c (pe_callB (call_sortedD hr) rfl hso bSorted (pa_c (pv 6) pa_nil)) pa_nil))))))), ?_⟩
    refine ⟨_, rfl, _, rfl, _, rfl, _, rfl, p, r, n, qa, ts, es, tl, u, v, rfl, N, hR, htl, fun Ht d kvs RW => ?_⟩
    intro fo hfo
    have hwa' : ∀ {wa : Addr}, (upd Ht fo (.dK [])) wa = none → Ht wa = none := fun h => (same_new hfo).none h
    refine ⟨_, rfl, (by show 1 ≤ sizeLine; decide), fun wa hwa => ?_⟩
    have hwt : Ht wa = none := hwa' hwa
    have hfw : fo ≠ wa := fun z => by rw [← z, upd_same] at hwa; cases hwa
    have C0 : ChSt Ht (upd (upd Ht fo (.dK [])) wa (.lst [.int (pt : Int)])) fo wa es.length [] [pt] := ⟨(same_new hfo).wr hwt, by rw [upd_same]; rfl, ⟨[], by rw [upd_ne hfw, upd_same], rfl⟩, List.nodup_nil, (fun k hk => by cases hk), Nat.le_refl _⟩
    refine ⟨fun m σ H' => ∃ fk wl V v8 v9, m = 2 * (es.length - fk.length) + wl.length ∧ σ = [some (.ref p), some (.ref r), some (.int (pt : Int)), some (.int (u : Int)), some (.int (v : Int)), some (.ref d), some (.ref fo), some (.ref wa), v8, v9] ∧ ChSt Ht H' fo wa es.length fk wl ∧ Walk es tl u v pt (· ∈ fk) V (· ∈ wl),
      ⟨_, [], [pt], _, none, none, rfl, rfl, C0, Walk.init⟩, ?_⟩
    rintro m σ H' ⟨fk, wl, VV, v8, v9, rfl, rfl, C, WW⟩
    have hfl : fk.length ≤ es.length := len_lt C.nd C.lt
    refine ⟨_, rfl, _, .inl ⟨_, SqL.of C.w, rfl⟩, ?_⟩
    refine ite2 (fun hz => ?_) (fun hz => ?_)
    · obtain ⟨w', x, rfl⟩ : ∃ w' x, wl = w' ++ [x] := by
        rcases List.eq_nil_or_concat wl with e | ⟨w', x, e⟩
        · subst e; cases hz
        · exact ⟨w', x, by rw [e, List.concat_eq_append]⟩
      have hwl : nl (w' ++ [x]) = nl w' ++ [.int (x : Int)] := (nl_app w' x).symm
      refine ⟨fun σ' H'' => ∃ m', m' < 2 * (es.length - fk.length) + (w' ++ [x]).length ∧ ∃ fk wl V v8 v9, m' = 2 * (es.length - fk.length) + wl.length ∧ σ' = [some (.ref p), some (.ref r), some (.int (pt : Int)), some (.int (u : Int)), some (.int (v : Int)), some (.ref d), some (.ref fo), some (.ref wa), v8, v9] ∧ ChSt Ht H'' fo wa es.length fk wl ∧ Walk es tl u v pt (· ∈ fk) V (· ∈ wl), fun _ _ h => h, ?_⟩
      have hdrop : (nl (w' ++ [x])).dropLast = nl w' := by rw [hwl, List.dropLast_concat]
      refine ⟨_, rfl, .inl ⟨rfl, _, SqL.of C.w⟩, wa, _, .int (x : Int), rfl, rfl, C.w, (by rw [hwl, List.length_append, List.length_singleton, Nat.add_sub_cancel, List.getElem?_append_right (Nat.le_refl _), Nat.sub_self]; rfl), ?_⟩
      rw [hdrop]
      obtain ⟨kf0, hkf0, hkk0⟩ := C.f
      have C1 : ChSt Ht (upd H' wa (.lst (nl w'))) fo wa es.length fk w' := ⟨C.s.wr hwt, upd_same, ⟨kf0, by rw [upd_ne hfw]; exact hkf0, hkk0⟩, C.nd, C.lt, (by have := C.bd; rw [List.length_append] at this; omega)⟩
      have hd1 := C1.s _ _ RW.dd
      refine ⟨_, rfl, d, rfl, .inl ⟨kvs, .inl hd1⟩, _, rfl, Nat.zero_le _, fun l0 hl0 => ⟨_, DGet.k (k := kN x) (same_new hl0 _ _ hd1), ?_⟩⟩
      have s0 : Same (upd H' wa (.lst (nl w'))) (upd (upd H' wa (.lst (nl w'))) l0 (.lst [])) := same_new hl0
      have C2 : ChSt Ht (upd (upd H' wa (.lst (nl w'))) l0 (.lst [])) fo wa es.length fk w' := ⟨Same.trans C1.s s0, s0 _ _ C1.w, (let ⟨kf, a, b⟩ := C1.f; ⟨kf, s0 _ _ a, b⟩), C1.nd, C1.lt, C1.bd⟩
      obtain ⟨la, ks, hval, hla, hks, hlw, hlf⟩ : ∃ la ks, (valV kvs (kN x)).getD (V.ref l0) = .ref la ∧ (upd (upd H' wa (.lst (nl w'))) l0 (.lst [])) la = some (.lst (nl ks)) ∧ (∀ k, k ∈ ks ↔ Rel es tl u v es.length k x) ∧ la ≠ wa ∧ la ≠ fo := by
        cases hv : valV kvs (kN x) with
        | none =>
          refine ⟨l0, [], rfl, upd_same, fun k => ⟨fun z => (by cases z), fun z => absurd z (RW.no x hv k)⟩, fun z => ?_, fun z => ?_⟩
          · rw [z, C1.w] at hl0; cases hl0
          · obtain ⟨kf, a, _⟩ := C1.f
            rw [z, a] at hl0; cases hl0
        | some y =>
          obtain ⟨l2, ks, rfl, _, a3, a4, _⟩ := RW.row x y hv
          exact ⟨l2, ks, rfl, s0 _ _ (C1.s _ _ a3), a4, ne_of_none a3 hwt, ne_of_none a3 hfo⟩
      rw [hval]
      refine ⟨la, rfl, ⟨_, SqL.of hla⟩, for_list (K := K) (a := la) (xs := nl ks) (fun j σ G => ∃ fk' wl' w9, σ = [some (.ref p), some (.ref r), some (.int (pt : Int)), some (.int (u : Int)), some (.int (v : Int)), some (.ref d), some (.ref fo), some (.ref wa), some (.int (x : Int)), w9] ∧ ChSt Ht G fo wa es.length fk' wl' ∧ G la = some (.lst (nl ks)) ∧ Walk es tl u v pt (· ∈ fk') VV (fun y => y ∈ wl' ∨ y = x) ∧ (∀ j' k, j' < j → ks[j']? = some k → k ∈ fk') ∧ 2 * (es.length - fk'.length) + wl'.length ≤ 2 * (es.length - fk.length) + w'.length)
        ⟨fk, w', _, rfl, C2, hla, WW.pop, (fun j' k z => absurd z (Nat.not_lt_zero _)), Nat.le_refl _⟩ (fun j σ G _ ⟨_, _, _, _, _, z, _⟩ => SqL.of z) (fun j y σ G hy ⟨fk', wl', w9, e, CG, gl, WG, hin, hms⟩ => ?_) (fun σ G ⟨fk', wl', w9, e, CG, gl, WG, hin, hms⟩ => ?_)⟩
      · subst e
        obtain ⟨k, hk, rfl⟩ : ∃ k, ks[j]? = some k ∧ y = V.int (k : Int) := by
          unfold nl at hy
          rw [List.getElem?_map] at hy
          cases z : ks[j]? with
          | none => rw [z] at hy; cases hy
          | some k => rw [z] at hy; cases hy; exact ⟨k, rfl, rfl⟩
        obtain ⟨hke, hkp, hkx⟩ := (hks k).mp (List.mem_of_getElem? hk)
        obtain ⟨kf, hkf, hkk⟩ := CG.f
        have hfl' : fk'.length ≤ es.length := len_lt CG.nd CG.lt
        have hkl : kf.length = fk'.length := by have := congrArg List.length hkk; simpa using this
        refine ⟨_, rfl, _, rfl, fo, _, rfl, DGet.k (k := kN k) hkf, _, rfl, ?_⟩
        refine ite2 (fun hz => ?_) (fun hz => ?_)
        · have hno : k ∉ fk' := fun z => by rw [(vin hkk k).mpr z] at hz; cases hz
          have hnone : valV kf (kN k) = none := by
            cases z : valV kf (kN k) with
            | none => rfl
            | some y => rw [z] at hz; cases hz
          have hnd : (fk' ++ [k]).Nodup := by
            rw [List.nodup_append]
            exact ⟨CG.nd, List.nodup_cons.mpr ⟨List.not_mem_nil, List.nodup_nil⟩, fun a ha b hb z => by rw [List.mem_singleton] at hb; subst hb z; exact hno ha⟩
          have hlt : ∀ a ∈ fk' ++ [k], a < es.length := fun a ha => by
            rcases List.mem_append.mp ha with z | z
            · exact CG.lt a z
            · rw [List.mem_singleton.mp z]; exact hke
          have hl3 : (fk' ++ [k]).length ≤ es.length := len_lt hnd hlt
          rw [List.length_append, List.length_singleton] at hl3
          refine ⟨_, rfl, _, rfl, fo, _, rfl, DPut.k (k := kN k) hkf (by rw [sizeLine_eq]; omega), ?_⟩
          have hw3 : (upd G fo (.dK (putK kf (kN k) (V.bl true)))) wa = some (.lst (nl wl')) := by rw [upd_ne (Ne.symm hfw)]; exact CG.w
          have sN : Same H (upd G fo (.dK (putK kf (kN k) (V.bl true)))) := Same.trans RW.s (CG.s.wr hfo)
          refine ⟨_, rfl, .inl ⟨rfl, _, SqL.of hw3⟩, _, rfl, _, rfl, _, rfl, p, n, qa, ts, es, k, x, rfl, N.same sN, hke, wa, _, _, rfl, rfl, hw3, (by have := CG.bd; rw [nl_len, sizeLine_eq]; omega), ?_⟩
          rw [nl_app]
          refine ⟨fk' ++ [k], wl' ++ [oth (es.getD k (0, 0)) x], _, rfl, ⟨(CG.s.wr hfo).wr hwt, upd_same, ⟨putK kf (kN k) (V.bl true), by rw [upd_ne hfw, upd_same], by rw [putK_new _ hnone, List.map_append, hkk, List.map_append]; rfl⟩, hnd, hlt, (by have := CG.bd; rw [List.length_append, List.length_append, List.length_singleton, List.length_singleton]; omega)⟩, by rw [upd_ne hlw, upd_ne hlf]; exact gl, WG.add hke hkp hkx, fun j' k' hj' hk' => ?_, ?_⟩
          · by_cases e : j' = j
            · subst e
              rw [hk] at hk'
              cases hk'
              exact List.mem_append_right _ (List.mem_singleton.mpr rfl)
            · exact List.mem_append_left _ (hin j' k' (by omega) hk')
          · rw [List.length_append, List.length_append, List.length_singleton, List.length_singleton]
            omega
        · have hyes : k ∈ fk' := (vin hkk k).mp (by
            cases z : (valV kf (kN k)).isSome with
            | true => rfl
            | false => rw [z] at hz; exact absurd rfl hz)
          refine ⟨fk', wl', _, rfl, CG, gl, WG, fun j' k' hj' hk' => ?_, hms⟩
          by_cases e : j' = j
          · subst e
            rw [hk] at hk'
            cases hk'
            exact hyes
          · exact hin j' k' (by omega) hk'
      · subst e
        refine ⟨_, ?_, fk', wl', _, _, _, rfl, rfl, CG, WG.close fun k h1 h2 h3 => ?_⟩
        · rw [List.length_append, List.length_singleton]
          omega
        · obtain ⟨j, hj, ej⟩ := List.getElem_of_mem ((hks k).mpr ⟨h1, h2, h3⟩)
          exact hin j k (by rw [nl_len]; exact hj) (by rw [List.getElem?_eq_getElem hj, ej])
    · have hwl : wl = [] := by
        cases wl with
        | nil => rfl
        | cons x l => exact absurd rfl hz
      subst hwl
      obtain ⟨kf, hkf, hkk⟩ := C.f
      have hdone := WW.done (fun x hx => by cases hx)
      have hkn : kf.map (·.1) = (fk.map fun x : Nat => (x : Int)).map Sum.inl := by rw [hkk, List.map_map]; rfl
      refine ⟨_, rfl, fo, kf, fk.map fun x : Nat => (x : Int), rfl, hkf, hkn, by rw [List.length_map]; omega, fun l ns' H2 s2 hl2 hp hs => ?_⟩
      refine ⟨l, _, rfl, .inl hl2, fun t H3 s3 ht => ?_⟩
      have hnn : ∀ x ∈ ns', 0 ≤ x := fun x hx => by
        obtain ⟨y, _, rfl⟩ := List.mem_map.mp (hp.mem_iff.mp hx)
        omega
      have hnl : ns'.map V.int = nl (ns'.map Int.toNat) := by
        unfold nl
        rw [List.map_map]
        refine List.map_congr_left fun x hx => ?_
        show V.int x = V.int ((x.toNat : Nat) : Int)
        rw [Int.toNat_of_nonneg (hnn x hx)]
      have hmem : ∀ k : Nat, k ∈ ns'.map Int.toNat ↔ k ∈ fk := fun k => by
        rw [List.mem_map]
        constructor
        · rintro ⟨x, hx, rfl⟩
          obtain ⟨y, hy, rfl⟩ := List.mem_map.mp (hp.mem_iff.mp hx)
          exact hy
        · intro hk
          exact ⟨(k : Int), hp.mem_iff.mpr (List.mem_map_of_mem (f := fun x : Nat => (x : Int)) hk), rfl⟩
      have hndI : ns'.Nodup := hp.nodup_iff.mpr (by
        rw [List.Nodup, List.pairwise_map]
        exact List.Pairwise.imp (fun {a b} h z => h (by omega)) C.nd)
      have hrise : (ns'.map Int.toNat).Pairwise (· < ·) := by
        rw [List.pairwise_map]
        refine List.Pairwise.imp_of_mem (fun {a b} ha hb h => ?_) (hs.and hndI)
        have := hnn a ha
        have := hnn b hb
        omega
      rw [hnl] at ht
      exact q H3 t _ (Same.trans (Same.trans (Same.trans RW.s C.s) s2) s3) ht hrise fun k => (hmem k).trans (hdone k)
end
end My
set_option Elab.async false
set_option linter.all false
set_option maxRecDepth 100000
set_option maxHeartbeats 4000000
namespace My
open PySem L2
def swp (tl : List (Option Nat)) (u v k : Nat) : Option Nat := some (if tl.getD k none = some u then v else u)
def trn (tl : List (Option Nat)) (u v : Nat) (S : List Nat) : List (Option Nat) := S.foldl (fun r k => r.set k (swp tl u v k)) tl
theorem trn_len (tl : List (Option Nat)) (u v : Nat) (S : List Nat) : (trn tl u v S).length = tl.length := by
  unfold trn
  have key : ∀ (S : List Nat) (r : List (Option Nat)), (S.foldl (fun r k => r.set k (swp tl u v k)) r).length = r.length := by
    intro S
    induction S with
    | nil => intro r; rfl
    | cons k S ih => intro r; rw [List.foldl_cons, ih, List.length_set]
  exact key S tl
theorem trn_snoc (tl : List (Option Nat)) (u v : Nat) (S : List Nat) (k : Nat) : trn tl u v (S ++ [k]) = (trn tl u v S).set k (swp tl u v k) := by
  unfold trn; rw [List.foldl_append]; rfl
theorem trn_get (tl : List (Option Nat)) (u v : Nat) (S : List Nat) (k : Nat) : (trn tl u v S)[k]? = if k ∈ S ∧ k < tl.length then some (swp tl u v k) else tl[k]? := by
  have key : ∀ (S : List Nat) (r : List (Option Nat)), r.length = tl.length → (S.foldl (fun r k => r.set k (swp tl u v k)) r)[k]? = if k ∈ S ∧ k < tl.length then some (swp tl u v k) else r[k]? := by
    intro S
    induction S with
    | nil => intro r _; rw [if_neg (fun z => by cases z.1)]; rfl
    | cons j S ih =>
      intro r hr
      rw [List.foldl_cons, ih _ (by rw [List.length_set]; exact hr)]
      by_cases h1 : k ∈ S ∧ k < tl.length
      · rw [if_pos h1, if_pos ⟨.tail _ h1.1, h1.2⟩]
      · rw [if_neg h1, List.getElem?_set]
        by_cases e : j = k
        · subst e
          by_cases hl : j < tl.length
          · rw [if_pos rfl, if_pos (by omega), if_pos ⟨.head _, hl⟩]
          · rw [if_pos rfl, if_neg (by omega), if_neg (fun z => hl z.2), List.getElem?_eq_none (by omega)]
        · rw [if_neg e, if_neg]
          rintro ⟨z, hl⟩
          rcases List.mem_cons.mp z with z | z
          · exact e z.symm
          · exact h1 ⟨z, hl⟩
  exact key S tl rfl
theorem tv_set (tl : List (Option Nat)) (k : Nat) (o : Option Nat) : (tv tl).set k (tN o) = tv (tl.set k o) := by unfold tv; rw [List.map_set]
section
variable {P : Program} {w : World} {K : PySem.W.Frag} {mg : Str → Option Value} {base : Heap}
abbrev sTu : Stmt := top 5
abbrev nTu : List Str := ["net", "tints", "point", "one", "other", "row", "tie"]
def spTu : Sp := fun vs H Q _ => ∃ (p r : Addr) (n : Nat) (q : Addr) (ts : List V) (es : List (Nat × Nat)) (tl : List (Option Nat)) (pt u v : Nat), vs = [.ref p, .ref r, .int (pt : Int), .int (u : Int), .int (v : Int)] ∧ NetZ H p n q ts es ∧ H r = some (.tup (tv tl)) ∧ tl.length = es.length ∧ es.length < 64 ∧
  ∀ H' t (S : List Nat), Same H H' → H' t = some (.tup (tv (trn tl u v S))) → S.Pairwise (· < ·) → (∀ k, k ∈ S ↔ RT es tl u v pt k) → Q (.ref t) H'
theorem scTu : FnScope nTu ["net", "tints", "point", "one", "other"] (defScope sTu) := ⟨rfl, rfl, rfl, by decide +kernel, rfl, by decide +kernel, by decide +kernel⟩
theorem ok_tu {f : Addr} {fd : FuncData} (F : Fun K "turned" "turned" sTu f fd) (T : Bi mg) (FC : FnE P w K mg base "chain" ["net", "tints", "point", "one", "other"] 2 spCh) : FnOk P w K mg base CX0 3 f fd ["net", "tints", "point", "one", "other"] spTu := by
  refine F.ok scTu (fun vs H Q E h => ?_) (fun cdv A outer s H vs Q E hr h => ?_)
  · obtain ⟨p, r, n, q, ts, es, tl, pt, u, v, rfl, _⟩ := h
    rfl
  · obtain ⟨p, r, n, qa, ts, es, tl, pt, u, v, rfl, N, hR, htl, h64, q⟩ := h
    refine ⟨_, pss_cons (ps_set (i := 5) scTu.nd rfl (Or.inl rfl) (pe_callTy call_list_of rfl T.list bList (pa_c (pv 1) pa_nil)))
      (pss_cons (ps_for PassesOwn.never rfl (pi_tup (pe_fc FC hr (pa_c (pv 0) (pa_c (pv 1) (pa_c (pv 2) (pa_c (pv 3) (pa_c (pv 4) pa_nil))))))) (pg_name (i := 6) scTu.nd rfl (Or.inl rfl))
        (pss_one (ps_asg (pe_ifExp (pt_cmpR op_eq (pe_ix ix_tup (pv 1) (pv 6) (fun _ _ => rfl)) (pv 3) (nomark _)) (pv 4) (pv 3)) (pg_sub (pv 5) (pv 6) set_listN))))
      (pss_one (ps_ret (pe_callTy call_tuple_ofS rfl T.tuple bTuple (pa_c (pv 5) pa_nil))))), ?_⟩
    refine ⟨_, rfl, r, _, rfl, .inr (SqT.of hR), fun ro hro => ?_⟩
    have s0 : Same H (upd H ro (.lst (tv tl))) := same_new hro
    refine ⟨_, rfl, _, rfl, _, rfl, _, rfl, _, rfl, p, r, n, qa, ts, es, tl, pt, u, v, rfl, N.same s0, s0 _ _ hR, htl, h64, fun H1 t S s1 ht hS hRT => ?_⟩
    have hS1 : Same H H1 := Same.trans s0 s1
    have hro1 : H1 ro = some (.lst (tv tl)) := s1 _ _ upd_same
    have htr : t ≠ ro := fun z => by rw [z, hro1] at ht; cases ht
    refine ⟨t, rfl, ⟨_, SqT.of ht⟩, for_tup (K := K) (a := t) (xs := nl S) (fun i σ G => ∃ v6, σ = [some (.ref p), some (.ref r), some (.int (pt : Int)), some (.int (u : Int)), some (.int (v : Int)), some (.ref ro), v6] ∧ Same H G ∧ G t = some (.tup (nl S)) ∧ G ro = some (.lst (tv (trn tl u v (S.take i)))))
      ⟨_, rfl, hS1, ht, hro1⟩ (fun i σ G _ ⟨_, _, _, z, _⟩ => SqT.of z) (fun i y σ G hy ⟨v6, e, SG, gt, gr⟩ => ?_) (fun σ G ⟨v6, e, SG, gt, gr⟩ => ?_)⟩
    · subst e
      obtain ⟨k, hk, rfl⟩ : ∃ k, S[i]? = some k ∧ y = V.int (k : Int) := by
        unfold nl at hy
        rw [List.getElem?_map] at hy
        cases z : S[i]? with
        | none => rw [z] at hy; cases hy
        | some k => rw [z] at hy; cases hy; exact ⟨k, rfl, rfl⟩
      have hke : k < es.length := ((hRT k).mp (List.mem_of_getElem? hk)).1
      have hkt : k < tl.length := by omega
      have hgk := tv_get (List.getElem?_eq_getElem hkt)
      have hgd : tl.getD k none = tl[k] := by rw [List.getD_eq_getElem?_getD, List.getElem?_eq_getElem hkt]; rfl
      have fin : ∀ o, o = swp tl u v k → ∃ w6 : Option V, ([some (.ref p), some (.ref r), some (.int (pt : Int)), some (.int (u : Int)), some (.int (v : Int)), some (.ref ro), some (.int (k : Int))] : St) = [some (.ref p), some (.ref r), some (.int (pt : Int)), some (.int (u : Int)), some (.int (v : Int)), some (.ref ro), w6] ∧ Same H (upd G ro (.lst ((tv (trn tl u v (S.take i))).set k (tN o)))) ∧ (upd G ro (.lst ((tv (trn tl u v (S.take i))).set k (tN o)))) t = some (.tup (nl S)) ∧ (upd G ro (.lst ((tv (trn tl u v (S.take i))).set k (tN o)))) ro = some (.lst (tv (trn tl u v (S.take (i + 1))))) := fun o ho => by
        subst ho
        refine ⟨_, rfl, SG.wr hro, by rw [upd_ne htr]; exact gt, ?_⟩
        rw [upd_same, tv_set, List.take_add_one, hk]
        show _ = some (HO.lst (tv (trn tl u v (S.take i ++ [k]))))
        rw [trn_snoc]
      have hlk : k < (tv (trn tl u v (S.take i))).length := by rw [tv_len, trn_len]; exact hkt
      refine ⟨_, rfl, _, rfl, r, _, _, _, rfl, rfl, SqT.of (SG _ _ hR), atI_nat hgk, _, rfl, (by cases tl[k] <;> rfl), _, rfl, ?_⟩
      refine ite2 (fun hz => ?_) (fun hz => ?_)
      · refine ⟨_, rfl, _, rfl, _, rfl, ro, _, k, rfl, rfl, gr, hlk, fin (some v) ?_⟩
        unfold swp
        rw [hgd, if_pos]
        cases ho : tl[k] with
        | none => rw [ho] at hz; cases hz
        | some t =>
          rw [ho] at hz
          have := V.int.inj (of_decide_eq_true hz)
          rw [show t = u by omega]
      · refine ⟨_, rfl, _, rfl, _, rfl, ro, _, k, rfl, rfl, gr, hlk, fin (some u) ?_⟩
        unfold swp
        rw [hgd, if_neg]
        intro ho
        rw [ho] at hz
        exact hz (decide_eq_true rfl)
    · subst e
      rw [nl_len, List.take_length] at gr
      exact ⟨_, rfl, ro, _, rfl, .inl gr, fun t2 H3 s3 ht2 => q H3 t2 S (Same.trans SG s3) ht2 hS hRT⟩
end
end My
set_option Elab.async false
set_option linter.all false
set_option maxRecDepth 100000
set_option maxHeartbeats 4000000
namespace My
open PySem L2
def addN (l : List Nat) (x : Nat) : List Nat := if x ∈ l then l else l ++ [x]
theorem mem_addN {l : List Nat} {x y : Nat} : y ∈ addN l x ↔ y ∈ l ∨ y = x := by
  unfold addN
  split
  · rename_i h
    exact ⟨.inl, fun z => z.elim id fun e => e ▸ h⟩
  · rw [List.mem_append, List.mem_singleton]
theorem addN_nodup {l : List Nat} {x : Nat} (h : l.Nodup) : (addN l x).Nodup := by
  unfold addN
  split
  · exact h
  · rename_i hn
    rw [List.nodup_append]
    exact ⟨h, List.nodup_cons.mpr ⟨List.not_mem_nil, List.nodup_nil⟩, fun a ha b hb z => by rw [List.mem_singleton] at hb; subst hb z; exact hn ha⟩
theorem addN_get {l : List Nat} {x y i : Nat} (h : l[i]? = some y) : (addN l x)[i]? = some y := by
  unfold addN
  split
  · exact h
  · rw [List.getElem?_append_left (List.getElem?_eq_some_iff.mp h).1]; exact h
theorem addN_len {l : List Nat} {x : Nat} : (addN l x).length ≤ l.length + 1 := by
  unfold addN
  split
  · omega
  · rw [List.length_append]; exact Nat.le_refl _
theorem addN_in {l : List Nat} {x : Nat} (h : x ∈ l) : addN l x = l := by unfold addN; rw [if_pos h]
structure Cm (es : List (Nat × Nat)) (tl : List (Option Nat)) (u v p n a : Nat) (met known : List Nat) : Prop where
  kn : known.Nodup
  kr : ∀ x ∈ known, RP es tl u v p x
  kp : p ∈ known
  klt : ∀ x ∈ known, x < n
  mn : met.Nodup
  mr : ∀ k ∈ met, RT es tl u v p k
  me : ∀ k ∈ met, (es.getD k (0, 0)).1 ∈ known ∧ (es.getD k (0, 0)).2 ∈ known
  cl : ∀ i x, i < a → known[i]? = some x → ∀ k, k < es.length → InP tl u v k → At (es.getD k (0, 0)) x → k ∈ met
  le : known.length ≤ met.length + 1
theorem Cm.start {es : List (Nat × Nat)} {tl : List (Option Nat)} {u v p n : Nat} (h : p < n) : Cm es tl u v p n 0 [] [p] :=
  ⟨List.nodup_cons.mpr ⟨List.not_mem_nil, List.nodup_nil⟩, (fun x hx => by rw [List.mem_singleton.mp hx]; exact .start), List.mem_singleton.mpr rfl, (fun x hx => by rw [List.mem_singleton.mp hx]; exact h), List.nodup_nil, (fun k hk => by cases hk), (fun k hk => by cases hk), (fun i x hi => absurd hi (Nat.not_lt_zero _)), Nat.le_refl _⟩
theorem Cm.add {es : List (Nat × Nat)} {tl : List (Option Nat)} {u v p n a x k : Nat} {met known : List Nat} (h : Cm es tl u v p n a met known) (hx : known[a]? = some x) (hk : k < es.length) (hi : InP tl u v k) (hat : At (es.getD k (0, 0)) x) (hno : k ∉ met) (h1 : (es.getD k (0, 0)).1 < n) (h2 : (es.getD k (0, 0)).2 < n) :
    Cm es tl u v p n a (met ++ [k]) (addN (addN known (es.getD k (0, 0)).1) (es.getD k (0, 0)).2) := by
  have hxm := List.mem_of_getElem? hx
  have rt : RT es tl u v p k := ⟨hk, hi, x, h.kr x hxm, hat⟩
  have hal : a < known.length := (List.getElem?_eq_some_iff.mp hx).1
  have key : ∀ y, y ∈ addN (addN known (es.getD k (0, 0)).1) (es.getD k (0, 0)).2 ↔ (y ∈ known ∨ y = (es.getD k (0, 0)).1) ∨ y = (es.getD k (0, 0)).2 := fun y => by rw [mem_addN, mem_addN]
  refine ⟨addN_nodup (addN_nodup h.kn), fun y hy => ?_, (key p).mpr (.inl (.inl h.kp)), fun y hy => ?_, ?_, fun j hj => ?_, fun j hj => ?_, fun i y hi' hy j a1 a2 a3 => ?_, ?_⟩
  · rcases (key y).mp hy with (z | rfl) | rfl
    · exact h.kr y z
    · exact rt.end (.inl rfl)
    · exact rt.end (.inr rfl)
  · rcases (key y).mp hy with (z | rfl) | rfl
    · exact h.klt y z
    · exact h1
    · exact h2
  · rw [List.nodup_append]
    exact ⟨h.mn, List.nodup_cons.mpr ⟨List.not_mem_nil, List.nodup_nil⟩, fun a ha b hb z => by rw [List.mem_singleton] at hb; subst hb z; exact hno ha⟩
  · rcases List.mem_append.mp hj with z | z
    · exact h.mr j z
    · rw [List.mem_singleton.mp z]; exact rt
  · rcases List.mem_append.mp hj with z | z
    · exact ⟨(key _).mpr (.inl (.inl (h.me j z).1)), (key _).mpr (.inl (.inl (h.me j z).2))⟩
    · rw [List.mem_singleton.mp z]; exact ⟨(key _).mpr (.inl (.inr rfl)), (key _).mpr (.inr rfl)⟩
  · have hil : i < known.length := by omega
    have e : known[i]? = some y := by
      have h3 := addN_get (x := (es.getD k (0, 0)).2) (addN_get (x := (es.getD k (0, 0)).1) (List.getElem?_eq_getElem hil))
      rw [hy] at h3
      rw [List.getElem?_eq_getElem hil, ← Option.some.inj h3]
    exact List.mem_append_left _ (h.cl i y hi' e j a1 a2 a3)
  · rw [List.length_append, List.length_singleton]
    have hle := h.le
    rcases hat with e | e
    · rw [addN_in (l := known) (x := (es.getD k (0, 0)).1) (e ▸ hxm)]
      have := addN_len (l := known) (x := (es.getD k (0, 0)).2)
      omega
    · rw [addN_in (l := addN known (es.getD k (0, 0)).1) (x := (es.getD k (0, 0)).2) (mem_addN.mpr (.inl (e ▸ hxm)))]
      have := addN_len (l := known) (x := (es.getD k (0, 0)).1)
      omega
theorem Cm.next {es : List (Nat × Nat)} {tl : List (Option Nat)} {u v p n a x : Nat} {met known : List Nat} (h : Cm es tl u v p n a met known) (hx : known[a]? = some x) (hc : ∀ k, k < es.length → InP tl u v k → At (es.getD k (0, 0)) x → k ∈ met) : Cm es tl u v p n (a + 1) met known :=
  ⟨h.kn, h.kr, h.kp, h.klt, h.mn, h.mr, h.me, (fun i y hi hy => by
    by_cases e : i = a
    · subst e
      rw [hx] at hy
      cases hy
      exact hc
    · exact h.cl i y (by omega) hy), h.le⟩
theorem Cm.done {es : List (Nat × Nat)} {tl : List (Option Nat)} {u v p n a : Nat} {met known : List Nat} (h : Cm es tl u v p n a met known) (ha : known.length ≤ a) : ∀ k, k ∈ met ↔ RT es tl u v p k := by
  have W : Walk es tl u v p (· ∈ met) (· ∈ known) (fun _ => False) := by
    refine ⟨h.mr, fun x z => z.elim, fun x hx k a1 a2 a3 => ?_, fun k hk x hx => .inl ?_, .inl h.kp⟩
    · obtain ⟨i, hi, e⟩ := List.getElem_of_mem hx
      exact h.cl i x (by omega) (by rw [List.getElem?_eq_getElem hi, e]) k a1 a2 a3
    · rcases hx with rfl | rfl
      · exact (h.me k hk).1
      · exact (h.me k hk).2
  exact W.done fun x z => z
theorem in_nl (k : Nat) (l : List Nat) : inV (.int (k : Int)) (nl l) = true ↔ k ∈ l := by
  unfold inV nl
  rw [List.any_map, List.any_eq_true]
  constructor
  · rintro ⟨x, hx, e⟩
    have e' : ((x : Int) == (k : Int)) = true := e
    have := eq_of_beq e'
    rw [show k = x by omega]
    exact hx
  · intro h
    exact ⟨k, h, (beq_iff_eq.mpr rfl : ((k : Int) == (k : Int)) = true)⟩
theorem flat_nl (l : List Nat) : (nl l).all flatV = true := by
  unfold nl
  rw [List.all_map, List.all_eq_true]
  exact fun x _ => rfl
theorem in_pair {tl : List (Option Nat)} {u v k : Nat} {o : Option Nat} (h : tl[k]? = some o) : inV (tN o) (nl [u, v]) = true ↔ InP tl u v k := by
  unfold InP
  rw [h]
  cases o with
  | none =>
    constructor
    · intro z; cases z
    · rintro (z | z) <;> cases z
  | some t =>
    refine (in_nl t [u, v]).trans ?_
    constructor
    · intro z
      rcases List.mem_cons.mp z with rfl | z
      · exact .inl rfl
      · rw [List.mem_singleton.mp z]; exact .inr rfl
    · rintro (z | z)
      · rw [Option.some.inj (Option.some.inj z)]; exact .head _
      · rw [Option.some.inj (Option.some.inj z)]; exact .tail _ (.head _)
theorem flat_tN (o : Option Nat) : flatV (tN o) = true := by cases o <;> rfl
def KJ (l : List Nat) (e : Nat × Nat) : Nat → List Nat
  | 0 => l
  | 1 => addN l e.1
  | _ => addN (addN l e.1) e.2
section
variable {P : Program} {w : World} {K : PySem.W.Frag} {mg : Str → Option Value} {base : Heap}
abbrev sCt : Stmt := top 14
abbrev nCt : List Str := ["_law_net_here", "_law_tints_here", "_law_point", "_law_pair", "_law_met", "_law_known", "_law_at", "_law_k", "_law_there"]
def spCt : Sp := fun vs H Q _ => ∃ (p r : Addr) (n : Nat) (q : Addr) (ts : List V) (es : List (Nat × Nat)) (tl : List (Option Nat)) (pt : Nat) (pr : Addr) (u v : Nat), vs = [.ref p, .ref r, .int (pt : Int), .ref pr] ∧ NetZ H p n q ts es ∧ H r = some (.tup (tv tl)) ∧ tl.length = es.length ∧ es.length < 64 ∧ pt < n ∧ H pr = some (.lst (nl [u, v])) ∧
  ∀ H' l (M : List Nat), Same H H' → H' l = some (.lst (nl M)) → M.Nodup → (∀ k, k ∈ M ↔ RT es tl u v pt k) → Q (.ref l) H'
theorem scCt : FnScope nCt ["_law_net_here", "_law_tints_here", "_law_point", "_law_pair"] (defScope sCt) := ⟨rfl, rfl, rfl, by decide +kernel, rfl, by decide +kernel, by decide +kernel⟩
theorem ok_ct {f : Addr} {fd : FuncData} (F : Fun K "_law_come_to" "_law_come_to" sCt f fd) (T : Bi mg) : FnOk P w K mg base CX0 1 f fd ["_law_net_here", "_law_tints_here", "_law_point", "_law_pair"] spCt := by
  refine F.ok scCt (fun vs H Q E h => ?_) (fun cdv A outer s H vs Q E hr h => ?_)
  · obtain ⟨p, r, n, q, ts, es, tl, pt, pr, u, v, rfl, _⟩ := h
    rfl
  · obtain ⟨p, r, n, qa, ts, es, tl, pt, pr, u, v, rfl, N, hR, htl, h64, hpt, hpr, q⟩ := h
    refine ⟨_, pss_cons (ps_set (i := 4) scCt.nd rfl (Or.inl rfl) (pe_lst pa_nil))
      (pss_cons (ps_set (i := 5) scCt.nd rfl (Or.inl rfl) (pe_lst (pa_c (pv 2) pa_nil)))
      (pss_cons (ps_set (i := 6) scCt.nd rfl (Or.inl rfl) pe_int)
      (pss_cons (ps_while PassesOwn.never (pt_cmpR op_lt (pv 6) (pe_callB call_len_seq rfl T.len bLen (pa_c (pv 5) pa_nil)) (nomark _))
        (pss_cons (ps_for PassesOwn.never rfl (pi_range1 rfl T.range (pa_c (pe_callB call_len_seq rfl T.len bLen (pa_c (pv 1) pa_nil)) pa_nil)) (pg_name (i := 7) scCt.nd rfl (Or.inl rfl))
          (pss_one (ps_if (PW.pt (pw_and (pt_cmpR op_in_seq (pe_ix ix_tup (pv 1) (pv 7) (fun _ _ => rfl)) (pv 3) rfl)
            (pw_and (pt_cmpR op_in_seq (pe_ix ix_list (pv 5) (pv 6) (fun _ _ => rfl)) (pe_ix ix_tup (pe_ix ix_tup (pv 0) pe_int (fun _ _ => rfl)) (pv 7) (fun _ _ => rfl)) rfl)
              (pw_and1 (pt_cmpR op_notIn_seq (pv 7) (pv 4) rfl)))))
            (pss_cons (ps_expr (pe_bm PySem.F.plainAttrs_list PySem.F.slot_list_append PySem.F.type_list_append mt_append (pv 4) (pa_c (pv 7) pa_nil)))
            (pss_one (ps_for PassesOwn.never rfl (pi_tup (pe_ix ix_tup (pe_ix ix_tup (pv 0) pe_int (fun _ _ => rfl)) (pv 7) (fun _ _ => rfl))) (pg_name (i := 8) scCt.nd rfl (Or.inl rfl))
              (pss_one (ps_if (pt_cmpR op_notIn_seq (pv 8) (pv 5) rfl)
                (pss_one (ps_expr (pe_bm PySem.F.plainAttrs_list PySem.F.slot_list_append PySem.F.type_list_append mt_append (pv 5) (pa_c (pv 8) pa_nil)))) pss_nil))))) pss_nil)))
        (pss_one (ps_set (i := 6) scCt.nd rfl (Or.inl rfl) (pe_op op_add (pv 6) pe_int)))))
      (pss_one (ps_ret (pv 4)))))), ?_⟩
    have h60 := N.n60
    have hlen := N.len
    refine ⟨Nat.zero_le _, fun me hme => ?_⟩
    refine ⟨_, rfl, (by show 1 ≤ sizeLine; decide), fun kn hkn => ?_⟩
    have hkH : H kn = none := (same_new hme).none hkn
    have hmk : me ≠ kn := fun z => by rw [← z, upd_same] at hkn; cases hkn
    refine ⟨fun m σ G => ∃ (a : Nat) (met known : List Nat) (v7 v8 : Option V), m = n - a ∧ a ≤ known.length ∧ σ = [some (.ref p), some (.ref r), some (.int (pt : Int)), some (.ref pr), some (.ref me), some (.ref kn), some (.int (a : Int)), v7, v8] ∧ Same H G ∧ G me = some (.lst (nl met)) ∧ G kn = some (.lst (nl known)) ∧ Cm es tl u v pt n a met known,
      ⟨_, 0, [], [pt], _, _, rfl, Nat.zero_le _, rfl, (same_new hme).wr hkH, by rw [upd_ne hmk, upd_same]; rfl, by rw [upd_same]; rfl, Cm.start hpt⟩, ?_⟩
    rintro m σ G ⟨a, met, known, v7, v8, rfl, hal, rfl, SG, gm, gk, C⟩
    have hkl : known.length ≤ n := len_lt C.kn C.klt
    refine ⟨_, rfl, _, rfl, kn, _, rfl, .inl (SqL.of gk), _, _, rfl, rfl, _, rfl, ?_⟩
    rw [nl_len]
    refine ite2 (fun hz => ?_) (fun hz => ?_)
    · have ha : a < known.length := by have := of_decide_eq_true hz; omega
      obtain ⟨x, hx⟩ : ∃ x, known[a]? = some x := ⟨_, List.getElem?_eq_getElem ha⟩
      refine ⟨fun σ' G => ∃ m', m' < n - a ∧ ∃ (a : Nat) (met known : List Nat) (v7 v8 : Option V), m' = n - a ∧ a ≤ known.length ∧ σ' = [some (.ref p), some (.ref r), some (.int (pt : Int)), some (.ref pr), some (.ref me), some (.ref kn), some (.int (a : Int)), v7, v8] ∧ Same H G ∧ G me = some (.lst (nl met)) ∧ G kn = some (.lst (nl known)) ∧ Cm es tl u v pt n a met known, fun _ _ h => h, ?_⟩
      refine ⟨_, rfl, r, _, rfl, .inr (SqT.of (SG _ _ hR)), _, rfl, (by rw [tv_len]; omega), (by rw [tv_len]; omega), for_range (lo := 0) (n := (((tv tl).length : Nat) : Int).toNat) (fun k σ G => ∃ (met known : List Nat) (v7 v8 : Option V), σ = [some (.ref p), some (.ref r), some (.int (pt : Int)), some (.ref pr), some (.ref me), some (.ref kn), some (.int (a : Int)), v7, v8] ∧ Same H G ∧ G me = some (.lst (nl met)) ∧ G kn = some (.lst (nl known)) ∧ Cm es tl u v pt n a met known ∧ known[a]? = some x ∧ ∀ j, j < k → InP tl u v j → At (es.getD j (0, 0)) x → j ∈ met)
        ⟨met, known, _, _, rfl, SG, gm, gk, C, hx, fun j hj => absurd hj (Nat.not_lt_zero _)⟩ (fun k σ G hk ⟨met, known, v7, v8, e, SG, gm, gk, C, hx, hc⟩ => ?_) (fun σ G ⟨met, known, v7, v8, e, SG, gm, gk, C, hx, hc⟩ => ?_)⟩
      · subst e
        rw [tv_len] at hk
        have hke : k < es.length := by omega
        have hkt : k < tl.length := by omega
        obtain ⟨ak, hak, hta⟩ := N.at' hke
        have hok := N.ok _ (getD_mem hke)
        have hgk := tv_get (List.getElem?_eq_getElem hkt)
        have skip : ¬ (InP tl u v k ∧ At (es.getD k (0, 0)) x ∧ k ∉ met) → ∀ j, j < k + 1 → InP tl u v j → At (es.getD j (0, 0)) x → j ∈ met := fun hn j hj a1 a2 => by
          by_cases e : j = k
          · subst e
            exact Classical.byContradiction fun z => hn ⟨a1, a2, z⟩
          · exact hc j (by omega) a1 a2
        refine ⟨_, rfl, _, rfl, r, _, _, _, rfl, rfl, SqT.of (SG _ _ hR), (by rw [Int.zero_add]; exact atI_nat hgk), _, rfl, pr, _, rfl, .inl (SqL.of (SG _ _ hpr)), flat_tN _, flat_nl _, _, rfl, ?_⟩
        refine ite2 (fun h1 => ?_) (fun h1 => ?_)
        · have i1 := (in_pair (List.getElem?_eq_getElem hkt)).mp h1
          refine ⟨_, rfl, _, rfl, kn, _, _, _, rfl, rfl, SqL.of gk, atI_nat (nl_get hx), _, rfl, p, _, _, _, rfl, rfl, SqT.of (SG _ _ N.e1), rfl, _, rfl, qa, _, _, _, rfl, rfl, SqT.of (SG _ _ N.e2), (by rw [Int.zero_add]; exact atI_nat hak), ak, _, rfl, .inr (SqT.of (SG _ _ hta)), rfl, rfl, _, rfl, ?_⟩
          refine ite2 (fun h2 => ?_) (fun h2 => ?_)
          · have i2 := (in_at _ _).mp h2
            refine ⟨_, rfl, _, rfl, me, _, rfl, .inl (SqL.of gm), rfl, flat_nl _, _, rfl, ?_⟩
            refine ite2 (fun h3 => ?_) (fun h3 => ?_)
            · have i3 : k ∉ met := fun z => by
                have h4 : (!inV (.int (0 + (k : Int))) (nl met)) = true := h3
                rw [Int.zero_add, (in_nl k met).mpr z] at h4
                cases h4
              have hml : met.length ≤ es.length := len_lt C.mn fun j hj => (C.mr j hj).1
              have hkl2 : known.length ≤ n := len_lt C.kn C.klt
              refine ⟨_, rfl, .inl ⟨rfl, _, SqL.of gm⟩, _, rfl, me, _, _, rfl, rfl, gm, (by rw [nl_len, sizeLine_eq]; omega), ?_⟩
              rw [Int.zero_add, nl_app]
              have SN : Same H (upd G me (.lst (nl (met ++ [k])))) := SG.wr hme
              have gk1 : (upd G me (.lst (nl (met ++ [k])))) kn = some (.lst (nl known)) := by rw [upd_ne (Ne.symm hmk)]; exact gk
              refine ⟨_, rfl, p, _, _, _, rfl, rfl, SqT.of (SN _ _ N.e1), rfl, _, rfl, qa, _, _, _, rfl, rfl, SqT.of (SN _ _ N.e2), atI_nat hak, ak, rfl, ⟨_, SqT.of (SN _ _ hta)⟩, for_tup (K := K) (a := ak) (xs := [.int ((es.getD k (0, 0)).1 : Int), .int ((es.getD k (0, 0)).2 : Int)])
                (fun j σ G => ∃ (w8 : Option V), σ = [some (.ref p), some (.ref r), some (.int (pt : Int)), some (.ref pr), some (.ref me), some (.ref kn), some (.int (a : Int)), some (.int (k : Int)), w8] ∧ Same H G ∧ G me = some (.lst (nl (met ++ [k]))) ∧ G kn = some (.lst (nl (KJ known (es.getD k (0, 0)) j))))
                ⟨_, rfl, SN, upd_same, gk1⟩ (fun j σ G _ ⟨_, _, z, _⟩ => SqT.of (z _ _ hta)) (fun j y σ G hy ⟨w8, e, SG, gm, gk⟩ => ?_) (fun σ G ⟨w8, e, SG, gm, gk⟩ => ?_)⟩
              · subst e
                obtain ⟨z, rfl, hkj, hjl⟩ : ∃ z : Nat, y = V.int (z : Int) ∧ KJ known (es.getD k (0, 0)) (j + 1) = addN (KJ known (es.getD k (0, 0)) j) z ∧ (KJ known (es.getD k (0, 0)) j).length ≤ known.length + 1 := by
                  match j, hy with
                  | 0, hy => cases hy; exact ⟨_, rfl, rfl, Nat.le_succ _⟩
                  | 1, hy => cases hy; exact ⟨_, rfl, rfl, addN_len⟩
                generalize KJ known (es.getD k (0, 0)) j = L at *
                refine ⟨_, rfl, _, rfl, kn, _, rfl, .inl (SqL.of gk), rfl, flat_nl _, _, rfl, ?_⟩
                refine ite2 (fun h5 => ?_) (fun h5 => ?_)
                · have i5 : z ∉ L := fun y => by
                    have h4 : (!inV (.int (z : Int)) (nl L)) = true := h5
                    rw [(in_nl z L).mpr y] at h4
                    cases h4
                  refine ⟨_, rfl, .inl ⟨rfl, _, SqL.of gk⟩, _, rfl, kn, _, _, rfl, rfl, gk, (by rw [nl_len, sizeLine_eq]; omega), ?_⟩
                  rw [nl_app]
                  refine ⟨_, rfl, SG.wr hkH, by rw [upd_ne hmk]; exact gm, ?_⟩
                  rw [upd_same, hkj]
                  unfold addN
                  rw [if_neg i5]
                · have i5 : z ∈ L := Classical.byContradiction fun y => h5 (by
                    show (!inV (.int (z : Int)) (nl L)) = true
                    rw [Bool.eq_false_iff.mpr fun y' => y ((in_nl z L).mp y')]
                    rfl)
                  refine ⟨_, rfl, SG, gm, ?_⟩
                  rw [hkj, addN_in i5]
                  exact gk
              · subst e
                refine ⟨met ++ [k], _, _, _, rfl, SG, gm, gk, C.add hx hke i1 i2 i3 hok.1 hok.2.1, addN_get (addN_get hx), fun j hj a1 a2 => ?_⟩
                by_cases e : j = k
                · subst e
                  exact List.mem_append_right _ (List.mem_singleton.mpr rfl)
                · exact List.mem_append_left _ (hc j (by omega) a1 a2)
            · exact ⟨met, known, _, _, rfl, SG, gm, gk, C, hx, skip fun z => h3 (by
                show (!inV (.int (0 + (k : Int))) (nl met)) = true
                rw [Int.zero_add, Bool.eq_false_iff.mpr fun y => z.2.2 ((in_nl k met).mp y)]
                rfl)⟩
          · refine iteF ?_
            exact ⟨met, known, _, _, rfl, SG, gm, gk, C, hx, skip fun z => h2 ((in_at _ _).mpr z.2.1)⟩
        · refine iteF ?_
          exact ⟨met, known, _, _, rfl, SG, gm, gk, C, hx, skip fun z => h1 ((in_pair (List.getElem?_eq_getElem hkt)).mpr z.1)⟩
      · subst e
        have hal2 : a < known.length := (List.getElem?_eq_some_iff.mp hx).1
        have hkl2 : known.length ≤ n := len_lt C.kn C.klt
        refine ⟨_, rfl, _, _, rfl, rfl, n - (a + 1), by omega, a + 1, met, known, _, _, rfl, by omega, rfl, SG, gm, gk, C.next hx fun k hk a1 a2 => hc k ?_ a1 a2⟩
        rw [tv_len]
        omega
    · have ha : known.length ≤ a := Nat.le_of_not_lt fun z => hz (decide_eq_true (Int.ofNat_lt.mpr z))
      exact ⟨_, rfl, q G me met SG gm C.mn (C.done ha)⟩
end
end My
set_option Elab.async false
set_option linter.all false
set_option maxRecDepth 100000
set_option maxHeartbeats 4000000
namespace My
open PySem L2
section
variable {P : Program} {w : World} {K : PySem.W.Frag} {mg : Str → Option Value} {base : Heap}
abbrev sIt : Stmt := top 13
abbrev nIt : List Str := ["_law_found", "_law_many", "_law_tint"]
def spIt : Sp := fun vs H Q _ => ∃ (r : Addr) (tl : List (Option Nat)), vs = [.ref r, .int (tl.length : Int)] ∧ H r = some (.tup (tv tl)) ∧ Q (.bl true) H
theorem scIt : FnScope nIt ["_law_found", "_law_many"] (defScope sIt) := ⟨rfl, rfl, rfl, by decide +kernel, rfl, by decide +kernel, by decide +kernel⟩
theorem ok_it {f : Addr} {fd : FuncData} (F : Fun K "_law_is_tinting" "_law_is_tinting" sIt f fd) (T : Bi mg) : FnOk P w K mg base CX0 1 f fd ["_law_found", "_law_many"] spIt := by
  refine F.ok scIt (fun vs H Q E h => ?_) (fun cdv A outer s H vs Q E hr h => ?_)
  · obtain ⟨r, tl, rfl, _⟩ := h
    rfl
  · obtain ⟨r, tl, rfl, hR, q⟩ := h
    refine ⟨_, pss_cons (ps_if (PW.pt (pw_or (pt_not (pt_val (pe_callB call_isinst rfl T.isi bIsi (pa_c (pv 0) (pa_c (pe_bltn (v := .ty "tuple") rfl T.tuple bTuple rfl) pa_nil)))))
        (pw_or1 (pt_cmpR op_ne (pe_callB call_len_seq rfl T.len bLen (pa_c (pv 0) pa_nil)) (pv 1) (nomark _))))) (pss_one (ps_ret pe_bl)) pss_nil)
      (pss_cons (ps_for PassesOwn.never rfl (pi_tup (pv 0)) (pg_name (i := 2) scIt.nd rfl (Or.inl rfl))
        (pss_one (ps_if (PW.pt (pw_and (pt_cmpR op_notN (pv 2) pe_non (nomark _)) (pw_and1 (PW.pt (pw_or (pt_not (pt_val (pe_callB call_isinst rfl T.isi bIsi (pa_c (pv 2) (pa_c (pe_bltn (v := .ty "int") rfl T.int bInt rfl) pa_nil))))) (pw_or1 (pt_val (pe_callB call_isinst rfl T.isi bIsi (pa_c (pv 2) (pa_c (pe_bltn (v := .ty "bool") rfl T.bool bBool rfl) pa_nil)))))))))) (pss_one (ps_ret pe_bl)) pss_nil)))
      (pss_one (ps_ret pe_bl))), ?_⟩
    refine ⟨_, rfl, _, _, _, _, rfl, .tup hR, kit K "tuple" "tuple" true (by decide +kernel), _, rfl, iteF ?_⟩
    refine ⟨_, rfl, r, _, rfl, .inr (SqT.of hR), _, rfl, rfl, _, rfl, ?_⟩
    rw [show (!decide (V.int (((tv tl).length : Nat) : Int) = V.int ((tl.length : Nat) : Int))) = false by rw [tv_len]; simp]
    refine iteF ⟨_, rfl, r, rfl, ⟨_, SqT.of hR⟩, for_tup (K := K) (a := r) (xs := tv tl) (fun i σ G => (∃ v2, σ = [some (.ref r), some (.int (tl.length : Int)), v2]) ∧ G = H) ⟨⟨_, rfl⟩, rfl⟩ (fun i σ G _ ⟨_, z⟩ => by subst z; exact SqT.of hR) (fun i y σ G hy ⟨⟨v2, e⟩, eG⟩ => ?_) (fun σ G ⟨_, eG⟩ => by subst eG; exact q)⟩
    subst e eG
    obtain ⟨o, ho, rfl⟩ := tv_inv hy
    refine ⟨_, rfl, rfl, _, rfl, ?_⟩
    cases o with
    | none => exact iteF (iteF ⟨⟨_, rfl⟩, rfl⟩)
    | some t =>
      refine iteT ?_
      refine ⟨_, rfl, _, _, _, _, rfl, .int (t : Int), kit K "int" "int" true (by decide +kernel), _, rfl, iteF ?_⟩
      exact ⟨_, rfl, _, _, _, _, rfl, .int (t : Int), kit K "int" "bool" false (by decide +kernel), _, rfl, iteF ⟨⟨_, rfl⟩, rfl⟩⟩
end
end My
set_option Elab.async false
set_option linter.all false
set_option maxRecDepth 100000
set_option maxHeartbeats 4000000
namespace My
open PySem L2
section
variable {P : Program} {w : World} {K : PySem.W.Frag} {mg : Str → Option Value} {base : Heap}
abbrev sTk : Stmt := top 15
abbrev nTk : List Str := ["_law_net_here", "_law_tints_here", "_law_taken_here", "_law_k", "_law_point"]
def spTk : Sp := fun vs H Q _ => ∃ (p r : Addr) (n : Nat) (q : Addr) (ts : List V) (es : List (Nat × Nat)) (tl : List (Option Nat)), vs = [.ref p, .ref r] ∧ NetZ H p n q ts es ∧ H r = some (.tup (tv tl)) ∧ tl.length = es.length ∧ CleanTo es tl es.length ∧ ∀ H' d kvs, Same H H' → H' d = some (.dT kvs) → Keys kvs (Used es tl es.length) → Q (.ref d) H'
theorem scTk : FnScope nTk ["_law_net_here", "_law_tints_here"] (defScope sTk) := ⟨rfl, rfl, rfl, by decide +kernel, rfl, by decide +kernel, by decide +kernel⟩
def UJ (es : List (Nat × Nat)) (tl : List (Option Nat)) (i t A1 B1 : Nat) : Nat → Nat → Nat → Prop
  | 0 => Used es tl i
  | 1 => fun x t' => Used es tl i x t' ∨ (x = A1 ∧ t' = t)
  | _ => fun x t' => (Used es tl i x t' ∨ (x = A1 ∧ t' = t)) ∨ (x = B1 ∧ t' = t)
theorem ok_tk {f : Addr} {fd : FuncData} (F : Fun K "_law_taken" "_law_taken" sTk f fd) (T : Bi mg) : FnOk P w K mg base CX0 1 f fd ["_law_net_here", "_law_tints_here"] spTk := by
  refine F.ok scTk (fun vs H Q E h => ?_) (fun cdv A outer s H vs Q E hr h => ?_)
  · obtain ⟨p, r, n, q, ts, es, tl, rfl, _⟩ := h
    rfl
  · obtain ⟨p, r, n, qa, ts, es, tl, rfl, N, hR, htl, hcl, q⟩ := h
    have hu := hu_of hr
    refine ⟨_, pss_cons (ps_set (i := 2) scTk.nd rfl (Or.inl rfl) pe_dnewT)
      (pss_cons (ps_for PassesOwn.never rfl (pi_range1 rfl T.range (pa_c (pe_callB call_len_seq rfl T.len bLen (pa_c (pv 1) pa_nil)) pa_nil)) (pg_name (i := 3) scTk.nd rfl (Or.inl rfl))
        (pss_one (ps_if (pt_cmpR op_notN (pe_ix ix_tup (pv 1) (pv 3) (fun _ _ => rfl)) pe_non (nomark _))
          (pss_one (ps_for PassesOwn.never rfl (pi_tup (pe_ix ix_tup (pe_ix ix_tup (pv 0) pe_int (fun _ _ => rfl)) (pv 3) (fun _ _ => rfl))) (pg_name (i := 4) scTk.nd rfl (Or.inl rfl))
            (pss_cons (ps_if (pt_cmp (pc_din hu (pe_tupS (pa_c (pv 4) (pa_c (pe_ix ix_tup (pv 1) (pv 3) (fun _ _ => rfl)) pa_nil))) (pv 2))) (pss_one (ps_ret pe_non)) pss_nil)
            (pss_one (ps_dput hu (pv 2) (pe_tupS (pa_c (pv 4) (pa_c (pe_ix ix_tup (pv 1) (pv 3) (fun _ _ => rfl)) pa_nil))) pe_bl rfl))))) pss_nil)))
      (pss_one (ps_ret (pv 2)))), ?_⟩
    have h200 := N.l200
    have hlen := N.len
    intro d hd
    have s0 : Same H (upd H d (.dT [])) := same_new hd
    refine ⟨_, rfl, r, _, rfl, .inr (SqT.of (s0 _ _ hR)), _, rfl, (by rw [tv_len]; omega), (by rw [tv_len]; omega), for_range (lo := 0) (n := (((tv tl).length : Nat) : Int).toNat) (fun i σ G => ∃ kvs v3 v4, σ = [some (.ref p), some (.ref r), some (.ref d), v3, v4] ∧ Same H G ∧ G d = some (.dT kvs) ∧ kvs.length ≤ 2 * i ∧ Keys kvs (Used es tl i))
      ⟨[], _, _, rfl, s0, upd_same, Nat.le_refl _, fun p t => ⟨(fun z => by cases z), fun z => absurd z Used.zero⟩⟩ (fun i σ G hi ⟨kvs, v3, v4, e, sG, gD, hkv, hK⟩ => ?_) (fun σ G ⟨kvs, v3, v4, e, sG, gD, hkv, hK⟩ => ?_)⟩
    · subst e
      rw [tv_len] at hi
      have hie : i < es.length := by omega
      have hit : i < tl.length := by omega
      obtain ⟨a, ha, hta⟩ := N.at' hie
      obtain ⟨_, _, ab⟩ := N.ok _ (getD_mem hie)
      have ho := List.getElem?_eq_getElem hit
      have hgk := tv_get ho
      refine ⟨_, rfl, _, rfl, r, _, _, _, rfl, rfl, SqT.of (sG _ _ hR), (by rw [Int.zero_add]; exact atI_nat hgk), rfl, _, rfl, ?_⟩
      generalize hoo : tl[i] = o at *
      cases o with
      | none =>
        refine iteF ⟨kvs, _, _, rfl, sG, gD, by omega, hK.iff fun x t => ?_⟩
        rw [Used.succ, ho]
        exact ⟨.inl, fun z => z.elim id fun ⟨z1, _⟩ => by cases z1⟩
      | some t =>
        refine iteT ?_
        refine ⟨_, rfl, p, _, _, _, rfl, rfl, SqT.of (sG _ _ N.e1), rfl, _, rfl, qa, _, _, _, rfl, rfl, SqT.of (sG _ _ N.e2), (by rw [Int.zero_add]; exact atI_nat ha), a, rfl, ⟨_, SqT.of (sG _ _ hta)⟩, for_tup (K := K) (a := a) (xs := [.int ((es.getD i (0, 0)).1 : Int), .int ((es.getD i (0, 0)).2 : Int)]) (fun j σ G => ∃ kvs' w4, σ = [some (.ref p), some (.ref r), some (.ref d), some (.int (0 + (i : Int))), w4] ∧ Same H G ∧ G d = some (.dT kvs') ∧ kvs'.length ≤ 2 * i + j ∧ Keys kvs' (UJ es tl i t (es.getD i (0, 0)).1 (es.getD i (0, 0)).2 j))
          ⟨kvs, _, rfl, sG, gD, by omega, hK⟩ (fun j σ G _ ⟨kvs', w4, _, z, _⟩ => SqT.of (z _ _ hta)) (fun j x σ G hx' ⟨kvs', w4, e, sG, gD, gk, gK⟩ => ?_) (fun σ G ⟨kvs', w4, e, sG, gD, gk, gK⟩ => ?_)⟩
        · subst e
          obtain ⟨X1, rfl, hj, hno, hks⟩ : ∃ X1 : Nat, x = .int (X1 : Int) ∧ j < 2 ∧ ¬ UJ es tl i t (es.getD i (0, 0)).1 (es.getD i (0, 0)).2 j X1 t ∧ (∀ x' t', (UJ es tl i t (es.getD i (0, 0)).1 (es.getD i (0, 0)).2 j x' t' ∨ (x' = X1 ∧ t' = t)) ↔ UJ es tl i t (es.getD i (0, 0)).1 (es.getD i (0, 0)).2 (j + 1) x' t') := by
            match j, hx' with
            | 0, hx' =>
              cases hx'
              exact ⟨_, rfl, by decide, fun z => CleanTo.not hie ho (.inl rfl) z hcl, fun x' t' => Iff.rfl⟩
            | 1, hx' =>
              cases hx'
              refine ⟨_, rfl, by decide, fun z => ?_, fun x' t' => Iff.rfl⟩
              rcases z with z | z
              · exact CleanTo.not hie ho (.inr rfl) z hcl
              · exact ab z.1.symm
          refine ⟨_, rfl, _, rfl, _, rfl, r, _, _, _, rfl, rfl, SqT.of (sG _ _ hR), (by rw [Int.zero_add]; exact atI_nat hgk), rfl, fun t1 G1 u1 h1 => ⟨_, rfl, d, _, rfl, DGet.t (k := ky X1 t) (u1 _ _ gD) h1, _, rfl, ?_⟩⟩
          refine ite2 (fun hz => absurd ((gK _ _).mp hz) hno) (fun hz => ?_)
          have l1 := length_putK kvs' (ky X1 t) (V.bl true)
          have sG1 := Same.trans sG u1
          refine ⟨_, rfl, _, rfl, _, rfl, _, rfl, r, _, _, _, rfl, rfl, SqT.of (sG1 _ _ hR), (by rw [Int.zero_add]; exact atI_nat hgk), rfl, fun t2 G2 u2 h2 => ⟨d, _, rfl, DPut.t (k := ky X1 t) (u2 _ _ (u1 _ _ gD)) h2 (by rw [sizeLine_eq]; omega), ?_⟩⟩
          exact ⟨_, _, rfl, (Same.trans sG1 u2).wr hd, upd_same, by omega, (gK.put _ _ _).iff hks⟩
        · subst e
          refine ⟨kvs', _, _, rfl, sG, gD, (by simp only [List.length_cons, List.length_nil] at gk; omega), gK.iff fun x t' => ?_⟩
          rw [Used.succ, ho]
          constructor
          · rintro ((z | ⟨rfl, rfl⟩) | ⟨rfl, rfl⟩)
            · exact .inl z
            · exact .inr ⟨rfl, .inl rfl⟩
            · exact .inr ⟨rfl, .inr rfl⟩
          · rintro (z | ⟨z, rfl | rfl⟩)
            · exact .inl (.inl z)
            · cases z; exact .inl (.inr ⟨rfl, rfl⟩)
            · cases z; exact .inr ⟨rfl, rfl⟩
    · subst e
      have en : (((tv tl).length : Nat) : Int).toNat = es.length := by rw [tv_len]; omega
      rw [en] at hK
      exact ⟨_, rfl, q G d kvs sG gD hK⟩
end
end My
set_option Elab.async false
set_option linter.all false
set_option maxRecDepth 100000
set_option maxHeartbeats 4000000
namespace My
open PySem L2
section
variable {es : List (Nat × Nat)} {tl : List (Option Nat)} {u v p : Nat} {S : List Nat}
theorem getD_of_get {k : Nat} {o : Option Nat} (h : tl[k]? = some o) : tl.getD k none = o := by rw [List.getD_eq_getElem?_getD, h]; rfl
theorem swp_u {k : Nat} (h : tl[k]? = some (some u)) : swp tl u v k = some v := by unfold swp; rw [getD_of_get h, if_pos rfl]
theorem swp_v {k : Nat} (huv : u ≠ v) (h : tl[k]? = some (some v)) : swp tl u v k = some u := by
  unfold swp; rw [getD_of_get h, if_neg fun z => huv (Option.some.inj z).symm]
theorem in_lt {k : Nat} (h : InP tl u v k) : k < tl.length := by
  rcases h with h | h <;> exact (List.getElem?_eq_some_iff.mp h).1
theorem trn_in {k : Nat} (h : k ∈ S) (hi : InP tl u v k) : (trn tl u v S)[k]? = some (swp tl u v k) := by rw [trn_get, if_pos ⟨h, in_lt hi⟩]
theorem trn_out {k : Nat} (h : k ∉ S) : (trn tl u v S)[k]? = tl[k]? := by rw [trn_get, if_neg fun z => h z.1]
theorem inp_trn (huv : u ≠ v) (hS : ∀ k ∈ S, InP tl u v k) (k : Nat) : InP (trn tl u v S) u v k ↔ InP tl u v k := by
  by_cases h : k ∈ S
  · have hi := hS k h
    refine ⟨fun _ => hi, fun _ => ?_⟩
    rcases hi with e | e
    · exact .inr (by rw [trn_in h (.inl e), swp_u e])
    · exact .inl (by rw [trn_in h (.inr e), swp_v huv e])
  · unfold InP
    rw [trn_out h]
theorem rp_mono {tl' : List (Option Nat)} {u' v' x : Nat} (h : ∀ k, InP tl u v k → InP tl' u' v' k) (hr : RP es tl u v p x) : RP es tl' u' v' p x := by
  induction hr with
  | start => exact .start
  | step hx hk hi ha hb ih => exact .step ih hk (h _ hi) ha hb
theorem rt_iff {tl' : List (Option Nat)} {u' v' k : Nat} (h : ∀ k, InP tl u v k ↔ InP tl' u' v' k) : RT es tl u v p k ↔ RT es tl' u' v' p k :=
  ⟨fun ⟨a, b, x, c, d⟩ => ⟨a, (h k).mp b, x, rp_mono (fun k => (h k).mp) c, d⟩, fun ⟨a, b, x, c, d⟩ => ⟨a, (h k).mpr b, x, rp_mono (fun k => (h k).mpr) c, d⟩⟩
theorem trn_back (huv : u ≠ v) (hS : ∀ k ∈ S, InP tl u v k) : trn (trn tl u v S) u v S = tl ∧ trn (trn tl u v S) v u S = tl := by
  have hL := trn_len tl u v S
  constructor
  · refine List.ext_getElem? fun k => ?_
    by_cases h : k ∈ S
    · have hi := hS k h
      rw [trn_in h ((inp_trn huv hS k).mpr hi)]
      rcases hi with e | e
      · have e1 : (trn tl u v S)[k]? = some (some v) := by rw [trn_in h (.inl e), swp_u e]
        rw [swp_v huv e1, e]
      · have e1 : (trn tl u v S)[k]? = some (some u) := by rw [trn_in h (.inr e), swp_v huv e]
        rw [swp_u e1, e]
    · rw [trn_out h, trn_out h]
  · refine List.ext_getElem? fun k => ?_
    by_cases h : k ∈ S
    · have hi := hS k h
      rw [trn_in h ((inp_trn huv hS k).mpr hi).symm]
      rcases hi with e | e
      · have e1 : (trn tl u v S)[k]? = some (some v) := by rw [trn_in h (.inl e), swp_u e]
        rw [swp_u e1, e]
      · have e1 : (trn tl u v S)[k]? = some (some u) := by rw [trn_in h (.inr e), swp_v huv e]
        rw [swp_v (Ne.symm huv) e1, e]
    · rw [trn_out h, trn_out h]
theorem trn_clean (huv : u ≠ v) (hS : ∀ k, k ∈ S ↔ RT es tl u v p k) (hc : CleanTo es tl es.length) : CleanTo es (trn tl u v S) es.length := by
  have hI : ∀ k ∈ S, InP tl u v k := fun k hk => ((hS k).mp hk).2.1
  have mix : ∀ i j t, i ∈ S → j ∉ S → j < es.length → (trn tl u v S)[i]? = some (some t) → (trn tl u v S)[j]? = some (some t) → ∀ x, At (es.getD i (0, 0)) x → ¬ At (es.getD j (0, 0)) x := by
    intro i j t hi hj hjl ei ej x hx hy
    have e1 : InP (trn tl u v S) u v i := (inp_trn huv hI i).mpr (hI i hi)
    have ht : t = u ∨ t = v := by
      rcases e1 with e | e
      · rw [ei] at e; exact .inl (Option.some.inj (Option.some.inj e))
      · rw [ei] at e; exact .inr (Option.some.inj (Option.some.inj e))
    have e2 : InP tl u v j := by
      rw [trn_out hj] at ej
      rcases ht with rfl | rfl
      · exact .inl ej
      · exact .inr ej
    exact hj ((hS j).mpr ⟨hjl, e2, x, ((hS i).mp hi).end hx, hy⟩)
  intro i j t hji hi ei ej x hx hy
  by_cases h1 : i ∈ S
  · by_cases h2 : j ∈ S
    · have same : ∃ t', tl[i]? = some (some t') ∧ tl[j]? = some (some t') := by
        rw [trn_in h1 (hI i h1)] at ei
        rw [trn_in h2 (hI j h2)] at ej
        rcases hI i h1 with a | a <;> rcases hI j h2 with b | b
        · exact ⟨u, a, b⟩
        · rw [swp_u a] at ei
          rw [swp_v huv b] at ej
          exact absurd ((Option.some.inj (Option.some.inj ej)).trans (Option.some.inj (Option.some.inj ei)).symm) huv
        · rw [swp_v huv a] at ei
          rw [swp_u b] at ej
          exact absurd ((Option.some.inj (Option.some.inj ei)).trans (Option.some.inj (Option.some.inj ej)).symm) huv
        · exact ⟨v, a, b⟩
      obtain ⟨t', a, b⟩ := same
      exact hc i j t' hji hi a b x hx hy
    · exact mix i j t h1 h2 (by omega) ei ej x hx hy
  · by_cases h2 : j ∈ S
    · exact mix j i t h2 h1 hi ej ei x hy hx
    · rw [trn_out h1] at ei
      rw [trn_out h2] at ej
      exact hc i j t hji hi ei ej x hx hy
end
end My
set_option Elab.async false
set_option linter.all false
set_option maxRecDepth 100000
set_option maxHeartbeats 4000000
namespace My
open PySem L2
theorem deg_filter {es : List (Nat × Nat)} (x : Nat) : ∀ {S : List Nat}, (∀ k ∈ S, (es.getD k (0, 0)).1 ≠ (es.getD k (0, 0)).2) → deg es S x = (S.filter fun k => decide (x = (es.getD k (0, 0)).1 ∨ x = (es.getD k (0, 0)).2)).length
  | [], _ => rfl
  | k :: S, h => by
    have ih := deg_filter x (S := S) fun k hk => h k (.tail _ hk)
    have hne := h k (.head _)
    show (if _ then 1 else 0) + (if _ then 1 else 0) + deg es S x = _
    rw [List.filter_cons, ih]
    by_cases e1 : (es.getD k (0, 0)).1 = x
    · have e2 : ¬ (es.getD k (0, 0)).2 = x := fun z => hne (e1.trans z.symm)
      rw [if_pos e1, if_neg e2, if_pos (decide_eq_true (.inl e1.symm)), List.length_cons]
      omega
    · by_cases e2 : (es.getD k (0, 0)).2 = x
      · rw [if_neg e1, if_pos e2, if_pos (decide_eq_true (.inr e2.symm)), List.length_cons]
        omega
      · rw [if_neg e1, if_neg e2, if_neg (fun z => (of_decide_eq_true z).elim (fun z => e1 z.symm) fun z => e2 z.symm)]
        omega
theorem deg_at {es : List (Nat × Nat)} {x : Nat} : ∀ {S : List Nat}, 1 ≤ deg es S x → ∃ k ∈ S, At (es.getD k (0, 0)) x
  | [], h => absurd (show 1 ≤ 0 from h) (by decide)
  | j :: S, h => by
    have h' : 1 ≤ (if (es.getD j (0, 0)).1 = x then 1 else 0) + (if (es.getD j (0, 0)).2 = x then 1 else 0) + deg es S x := h
    by_cases e1 : (es.getD j (0, 0)).1 = x
    · exact ⟨j, .head _, .inl e1.symm⟩
    · by_cases e2 : (es.getD j (0, 0)).2 = x
      · exact ⟨j, .head _, .inr e2.symm⟩
      · rw [if_neg e1, if_neg e2] at h'
        obtain ⟨k, hk, z⟩ := deg_at (es := es) (x := x) (S := S) (by omega)
        exact ⟨k, .tail _ hk, z⟩
theorem deg_le {es : List (Nat × Nat)} {tl : List (Option Nat)} {u v : Nat} {S : List Nat} (nd : S.Nodup) (hk : ∀ k ∈ S, k < es.length ∧ InP tl u v k) (hne : ∀ k ∈ S, (es.getD k (0, 0)).1 ≠ (es.getD k (0, 0)).2) (hc : CleanTo es tl es.length) (x : Nat) : deg es S x ≤ 2 := by
  rw [deg_filter x hne]
  have hF : ∀ k ∈ S.filter fun k => decide (x = (es.getD k (0, 0)).1 ∨ x = (es.getD k (0, 0)).2), k ∈ S ∧ At (es.getD k (0, 0)) x := fun k hk => ⟨(List.mem_filter.mp hk).1, show x = (es.getD k (0, 0)).1 ∨ x = (es.getD k (0, 0)).2 from of_decide_eq_true (List.mem_filter.mp hk).2⟩
  have hnF : (S.filter fun k => decide (x = (es.getD k (0, 0)).1 ∨ x = (es.getD k (0, 0)).2)).Nodup := nd.filter _
  generalize (S.filter fun k => decide (x = (es.getD k (0, 0)).1 ∨ x = (es.getD k (0, 0)).2)) = F at *
  have h1 : (F.map fun k => if tl[k]? = some (some u) then 0 else 1).Nodup := by
    unfold List.Nodup
    rw [List.pairwise_map]
    refine List.Pairwise.imp_of_mem (fun {a b} ha hb hab z => ?_) hnF
    obtain ⟨ha1, ha2⟩ := hF a ha
    obtain ⟨hb1, hb2⟩ := hF b hb
    have same : ∃ t, tl[a]? = some (some t) ∧ tl[b]? = some (some t) := by
      by_cases ea : tl[a]? = some (some u)
      · by_cases eb : tl[b]? = some (some u)
        · exact ⟨u, ea, eb⟩
        · rw [if_pos ea, if_neg eb] at z; cases z
      · by_cases eb : tl[b]? = some (some u)
        · rw [if_neg ea, if_pos eb] at z; cases z
        · exact ⟨v, (hk a ha1).2.resolve_left ea, (hk b hb1).2.resolve_left eb⟩
    obtain ⟨t, ta, tb⟩ := same
    rcases Nat.lt_trichotomy a b with h | h | h
    · exact hc b a t h (hk b hb1).1 tb ta x hb2 ha2
    · exact hab h
    · exact hc a b t h (hk a ha1).1 ta tb x ha2 hb2
  have h2 := len_lt (n := 2) h1 fun y hy => by
    obtain ⟨k, _, rfl⟩ := List.mem_map.mp hy
    split <;> omega
  rw [List.length_map] at h2
  exact h2
section
variable {es : List (Nat × Nat)} {tl : List (Option Nat)} {u v p : Nat} {S : List Nat}
def swt (u v t : Nat) : Nat := if t = u then v else u
theorem used_swap (huv : u ≠ v) (hS : ∀ k, k ∈ S ↔ RT es tl u v p k) {x t : Nat} (hx : RP es tl u v p x) (ht : t = u ∨ t = v) : Used es (trn tl u v S) es.length x t ↔ Used es tl es.length x (swt u v t) := by
  have hI : ∀ k ∈ S, InP tl u v k := fun k hk => ((hS k).mp hk).2.1
  constructor
  · rintro ⟨j, hj, e, ha⟩
    have hi : InP (trn tl u v S) u v j := ht.elim (fun z => .inl (z ▸ e)) fun z => .inr (z ▸ e)
    have hi' := (inp_trn huv hI j).mp hi
    have hm : j ∈ S := (hS j).mpr ⟨hj, hi', x, hx, ha⟩
    refine ⟨j, hj, ?_, ha⟩
    rw [trn_in hm hi'] at e
    rcases hi' with a | a
    · rw [swp_u a] at e
      have : t = v := (Option.some.inj (Option.some.inj e)).symm
      unfold swt
      rw [if_neg (fun z => huv (z.symm.trans this)), a]
    · rw [swp_v huv a] at e
      have : t = u := (Option.some.inj (Option.some.inj e)).symm
      unfold swt
      rw [if_pos this, a]
  · rintro ⟨j, hj, e, ha⟩
    have hi : InP tl u v j := by
      rcases ht with rfl | rfl
      · unfold swt at e; rw [if_pos rfl] at e; exact .inr e
      · unfold swt at e; rw [if_neg (Ne.symm huv)] at e; exact .inl e
    have hm : j ∈ S := (hS j).mpr ⟨hj, hi, x, hx, ha⟩
    refine ⟨j, hj, ?_, ha⟩
    rw [trn_in hm hi]
    rcases ht with rfl | rfl
    · unfold swt at e; rw [if_pos rfl] at e; rw [swp_v huv e]
    · unfold swt at e; rw [if_neg (Ne.symm huv)] at e; rw [swp_u e]
theorem used_two (hn : S.Nodup) (hS : ∀ k, k ∈ S ↔ RT es tl u v p k) (hc : CleanTo es tl es.length) (hne : ∀ k, k < es.length → (es.getD k (0, 0)).1 ≠ (es.getD k (0, 0)).2) {x t : Nat} (h2 : deg es S x = 2) (ht : t = u ∨ t = v) : Used es tl es.length x t := by
  rw [deg_filter x fun k hk => hne k ((hS k).mp hk).1] at h2
  have hF : ∀ k ∈ S.filter fun k => decide (x = (es.getD k (0, 0)).1 ∨ x = (es.getD k (0, 0)).2), k ∈ S ∧ At (es.getD k (0, 0)) x := fun k hk => ⟨(List.mem_filter.mp hk).1, show x = (es.getD k (0, 0)).1 ∨ x = (es.getD k (0, 0)).2 from of_decide_eq_true (List.mem_filter.mp hk).2⟩
  have hnF : (S.filter fun k => decide (x = (es.getD k (0, 0)).1 ∨ x = (es.getD k (0, 0)).2)).Nodup := hn.filter _
  generalize (S.filter fun k => decide (x = (es.getD k (0, 0)).1 ∨ x = (es.getD k (0, 0)).2)) = F at *
  match F, h2 with
  | [a, b], _ =>
    have hab : a ≠ b := fun z => (List.nodup_cons.mp hnF).1 (by rw [z]; exact .head _)
    obtain ⟨a1, a2⟩ := hF a (.head _)
    obtain ⟨b1, b2⟩ := hF b (.tail _ (.head _))
    have ra := (hS a).mp a1
    have rb := (hS b).mp b1
    have diff : ∀ t', tl[a]? = some (some t') → tl[b]? = some (some t') → False := fun t' ta tb => by
      rcases Nat.lt_trichotomy a b with h | h | h
      · exact hc b a t' h rb.1 tb ta x b2 a2
      · exact hab h
      · exact hc a b t' h ra.1 ta tb x a2 b2
    rcases ra.2.1 with ea | ea <;> rcases rb.2.1 with eb | eb
    · exact (diff u ea eb).elim
    · rcases ht with rfl | rfl
      · exact ⟨a, ra.1, ea, a2⟩
      · exact ⟨b, rb.1, eb, b2⟩
    · rcases ht with rfl | rfl
      · exact ⟨b, rb.1, eb, b2⟩
      · exact ⟨a, ra.1, ea, a2⟩
    · exact (diff v ea eb).elim
theorem used_due (huv : u ≠ v) (hn : S.Nodup) (hS : ∀ k, k ∈ S ↔ RT es tl u v p k) (hc : CleanTo es tl es.length) (hne : ∀ k, k < es.length → (es.getD k (0, 0)).1 ≠ (es.getD k (0, 0)).2) {x t : Nat} (h1 : 1 ≤ deg es S x) (ht : t = u ∨ t = v) :
    Used es (trn tl u v S) es.length x t ↔ Used es tl es.length x (if deg es S x = 1 then swt u v t else t) := by
  obtain ⟨k, hk, ha⟩ := deg_at h1
  have hx : RP es tl u v p x := ((hS k).mp hk).end ha
  have h2 := deg_le hn (fun k hk => ⟨((hS k).mp hk).1, ((hS k).mp hk).2.1⟩) (fun k hk => hne k ((hS k).mp hk).1) hc x
  rw [used_swap huv hS hx ht]
  by_cases e : deg es S x = 1
  · rw [if_pos e]
  · rw [if_neg e]
    have e2 : deg es S x = 2 := by omega
    have hs : swt u v t = u ∨ swt u v t = v := by unfold swt; split; exact .inr rfl; exact .inl rfl
    exact ⟨fun _ => used_two hn hS hc hne e2 ht, fun _ => used_two hn hS hc hne e2 hs⟩
end
end My
set_option Elab.async false
set_option linter.all false
set_option maxRecDepth 100000
set_option maxHeartbeats 4000000
namespace SetT
open PySem PySem.SetTable PySem.Spec PyProof.Rows
def ival : Value → Int
  | .int i _ => i
  | _ => 0
def byT (w : World) : Bool := w.params.followText "set-order"
def SI (prog : Program) (w : World) (h : Heap) (a : Addr) (ks : List Int) : Prop :=
  ∃ o es ep t, h.get? a = some o ∧ o.ExactSet ∧ o.data = .set es ep t ∧ SetOk t es ∧ Mk t.mask ∧ es.size * 5 < t.mask * 3 ∧ t.plain = true ∧ t.led = !byT w ∧ ElemsOf (intKind prog w) es.toList ∧ (es.toList.map fun e => ival e.2).Perm ks
variable {prog : Program} {w : World} {A : Around} {E : Value → Shared → Prop} {s : Shared}
theorem SI.at' {h h' : Heap} {a : Addr} {ks : List Int} (x : SI prog w h a ks) (k : ∀ o, h.get? a = some o → h'.get? a = some o) : SI prog w h' a ks := let ⟨o, es, ep, t, ho, r⟩ := x; ⟨o, es, ep, t, k o ho, r⟩
theorem perm_of : ∀ {a l : List Nat}, a.Nodup → (∀ x ∈ a, x ∈ l) → a.length = l.length → a.Perm l
  | [], l, _, _, h => by
    cases l with
    | nil => exact .nil
    | cons _ _ => cases h
  | x :: a, l, nd, sub, h => by
    have hx := sub x (.head _)
    have hp := List.perm_cons_erase hx
    refine (List.Perm.cons x (perm_of (List.nodup_cons.mp nd).2 (fun y hy => ?_) ?_)).trans hp.symm
    · have hne : y ≠ x := fun e => (List.nodup_cons.mp nd).1 (e ▸ hy)
      exact (List.mem_erase_of_ne hne).mpr (sub y (.tail _ hy))
    · rw [List.length_erase_of_mem hx]
      rw [List.length_cons] at h
      omega
theorem relay_all {t : SetTable} {es : Array (Int × Value)} {wanted : Nat} (hf : fullB (sizeAbove wanted - 1) = true) (ho : (sizeAbove wanted - 1) % 2 = 1) (hl : es.size ≤ sizeAbove wanted - 1) :
    ∃ t' es' g, relayAll t es wanted = (es', t', g) ∧ SetOk t' es' ∧ t'.mask = sizeAbove wanted - 1 ∧ t'.plain = t.plain ∧ t'.led = t.led := by
  obtain ⟨t', order, r1, r2, r3, r4, r5, r6, r7⟩ := relaid_ok (t := t) hf ho hl
  refine ⟨t', order.filterMap (es[·]?), false, ?_, r3, r4, r5, r6⟩
  have hc : coversAll order es.size = true := by
    obtain ⟨owner, e0, L⟩ := lay_ok hf (es.map (·.1)) (by rw [Array.size_map]; exact hl)
    rw [Array.size_map] at L
    have eo : order = ((liveL (sizeAbove wanted - 1) owner).map (·.2)).toArray := by
      unfold SetTable.relaid SetTable.laid at r1
      rw [e0] at r1
      exact (congrArg Prod.snd (Option.some.inj r1)).symm
    unfold coversAll
    rw [List.isPerm_iff, eo]
    refine (perm_of List.nodup_range (fun m hm => ?_) ?_).symm
    · rw [List.mem_range] at hm
      obtain ⟨j, hj⟩ := L.has m hm
      have hjs : j < sizeAbove wanted - 1 + 1 := by rw [← L.size]; exact (Array.getElem?_eq_some_iff.mp hj).1
      exact List.mem_map.mpr ⟨(j, m), mem_live.mpr ⟨hjs, hj⟩, rfl⟩
    · show (List.range es.size).length = ((liveL (sizeAbove wanted - 1) owner).map (·.2)).length
      rw [List.length_range, List.length_map, live_len L]
  have hfit : t'.fits (order.filterMap (es[·]?)).size = true := fits_of r3 (by rw [r2, r4]; omega)
  unfold relayAll
  rw [r1]
  dsimp only
  rw [hc, hfit]
  rfl
theorem lay_new {t : SetTable} {es : Array (Int × Value)} {h : Int} {x : Value} (ok : SetOk t es) (room : es.size < t.mask) :
    ∃ t' es' g, layNew t es h x = (es', t', false, g) ∧ SetOk t' es' ∧ t'.mask = t.mask ∧ t'.plain = t.plain ∧ t'.led = t.led ∧ es'.size = es.size + 1 := by
  obtain ⟨k0, hlt0, hk0, hl⟩ := first_empty ok (by omega) (bits h) (bits_lt _)
  have hjlt := posLt t.mask (bits h) k0
  have ins := insert_ok (x := x) ok hk0 hjlt hl
  have b1' : below t.place (pos t.mask (bits h) k0) ≤ es.size := by rw [← ok.size]; exact (below_spec ok.rise _).1
  have isz := insertAt_size es (below t.place (pos t.mask (bits h) k0)) (h, x) b1'
  have hfree : t.freeSlot h = some (pos t.mask (bits h) k0, false) := by
    unfold SetTable.freeSlot SetTable.probe
    rw [stk_zero]
    rcases go_spec ok (f := fun _ => h + 1) (h := h) hk0 hl (10 * turns t.mask) 0 (Nat.zero_le _) (by omega) with ⟨e, _⟩ | ⟨k1, i, _, _, _, _, e, _⟩
    · rw [e]; rfl
    · omega
  refine ⟨_, _, false, ?_, ins, rfl, rfl, rfl, isz⟩
  have hfit := fits_of ins (by show (insertAt es (below t.place (pos t.mask (bits h) k0)) (h, x)).size < t.mask + 1; omega)
  unfold layNew
  rw [hfree]
  dsimp only
  rw [put_eq ok.nod]
  dsimp only
  unfold SetTable.orStandIn
  rw [hfit]
  rfl
theorem good_size {m n : Nat} (mk : Mk m) (fl : n * 5 < m * 3) (hn : n ≤ 250) (tf : (n + 1) * 5 ≥ m * 3) : Mk (sizeAbove (grown (n + 1)) - 1) ∧ (n + 1) * 5 < (sizeAbove (grown (n + 1)) - 1) * 3 := by
  have cs : (m = 7 ∧ n + 1 = 5) ∨ (m = 31 ∧ n + 1 = 19) ∨ (m = 127 ∧ n + 1 = 77) := by
    rcases mk with q | q | q | q <;> omega
  rcases cs with ⟨_, q⟩ | ⟨_, q⟩ | ⟨_, q⟩ <;> rw [q]
  · exact ⟨.inr (.inl (by decide)), by decide⟩
  · exact ⟨.inr (.inr (.inl (by decide))), by decide⟩
  · exact ⟨.inr (.inr (.inr (by decide))), by decide⟩
theorem is_ival {k : Int} {v : Value} (h : (intKind prog w).is k v = true) : ival v = k := by
  obtain ⟨t, e⟩ := Value.isInt_shape (k := k) (v := v) h
  rw [e]; rfl
theorem add_int {a : Addr} {ks : List Int} {k : Int} {x : Value} {Q : Bool → Shared → Prop} (hkey : (intKind prog w).is k x = true) (hS : SI prog w s.heap a ks) (hb : ks.length ≤ 250)
    (h : ∀ h' r, Heap.SameBut a s.heap h' → SI prog w h' a (step_dedup ks k) → Q r { s with heap := h' }) :
    wpAny (model prog w) A (setAddHashed a x ((intKind prog w).hash k)) Q E s := by
  obtain ⟨o, es, ep, t, ho, hex, hd, ok, mk, fl, hpl, hled, hel, hp⟩ := hS
  have hlen : es.size = ks.length := by have := hp.length_eq; simpa using this
  have hsc : x.scannable = true := by obtain ⟨tk, e⟩ := Value.isInt_shape (k := k) (v := x) hkey; rw [e]; rfl
  have hpk : plainKind x = true := by obtain ⟨tk, e⟩ := Value.isInt_shape (k := k) (v := x) hkey; rw [e]; rfl
  have hsb : es.size < scanBound := by unfold scanBound; omega
  have hf := fits_of ok (by omega)
  unfold setAddHashed setAddHashedIn
  refine wpAny_holding (wpAny_bind (wpAny_setState_of ho hd hf ?_))
  dsimp only
  rw [byScan_of hsc hsb hel]
  simp only [↓reduceIte]
  unfold setAddByScan
  refine wpAny_bind ?_
  refine wpAny_bind (wpAny_rule ?_)
  refine wpAny_bind (wpAny_setScan_of hkey ho hd hf hel ?_)
  cases hr : List.findIdx? (fun e => (intKind prog w).is k e.2) es.toList with
  | some j =>
    dsimp only
    obtain ⟨hj, hpj, _⟩ := List.findIdx?_eq_some_iff_getElem.mp hr
    refine wpAny_pure (wpAny_pure ?_)
    have e : s = { s with heap := s.heap } := by cases s; rfl
    rw [e]
    refine h s.heap _ (Heap.SameBut.refl a s.heap) ?_
    have hin : k ∈ ks := hp.mem_iff.mp (List.mem_map.mpr ⟨es.toList[j], List.getElem_mem hj, is_ival hpj⟩)
    unfold step_dedup
    rw [if_pos (show (ks.any fun x => x == k) = true from List.any_eq_true.mpr ⟨k, hin, beq_self_eq_true k⟩)]
    exact ⟨o, es, ep, t, ho, hex, hd, ok, mk, fl, hpl, hled, hel, hp⟩
  | none =>
    dsimp only
    have hno : k ∉ ks := fun z => by
      obtain ⟨e, he, e2⟩ := List.mem_map.mp (hp.mem_iff.mpr z)
      obtain ⟨⟨k', hk', _⟩, _⟩ := hel e he
      have h2 := is_ival hk'
      rw [e2] at h2
      subst h2
      have := List.findIdx?_eq_none_iff.mp hr e he
      rw [hk'] at this
      exact Bool.noConfusion this
    have hstep : step_dedup ks k = ks ++ [k] := by
      unfold step_dedup
      rw [if_neg fun z => ?_]
      obtain ⟨y, hy, e⟩ := List.any_eq_true.mp z
      exact hno (by rw [← eq_of_beq e]; exact hy)
    rw [hstep] at h
    have hgw : ∀ (b : Bool) {s₁ : Shared} {Q' : Unit → Shared → Prop}, Q' () s₁ → wpAny (model prog w) A (match b with | true => rule "set.scan.the-table-gave-way" | false => pure ()) Q' E s₁ :=
      fun b s₁ Q' hq => by cases b <;> first | exact wpAny_pure hq | exact wpAny_rule hq
    have hperm := layNew_perm t es ((intKind prog w).hash k) x
    obtain ⟨t1, es1, gave, hL, ok1, em1, epl1, eled1, esz1⟩ := lay_new (h := (intKind prog w).hash k) (x := x) ok (by omega)
    rw [hL] at hperm ⊢
    dsimp only at hperm ⊢
    rw [Array.toList_push] at hperm
    have hel1 : ElemsOf (intKind prog w) es1.toList := (hel.push hkey hsc).perm hperm
    have hp1 : (es1.toList.map fun e => ival e.2).Perm (ks ++ [k]) := by
      refine (hperm.map _).trans ?_
      rw [List.map_append]
      refine hp.append ?_
      show List.Perm [ival x] [k]
      rw [is_ival hkey]
    have hpl1 : t1.plain = true := by rw [epl1, hpl]
    have hled1 : t1.led = !byT w := by rw [eled1, hled]
    refine wpAny_bind (hgw _ ?_)
    rw [hpl1]
    simp only [↓reduceIte]
    refine wpAny_bind ?_
    rw [hashByValue_scannable 8 hsc, hpk]
    refine wpAny_pure ?_
    simp only [↓reduceIte]
    refine wpAny_bind (wpAny_storeSet_of ho hd ?_ (by rw [sizeLine_eq]; omega))
    have hsb1 := Heap.SameBut.update s.heap a (Obj.putSet es1 t1)
    have ho1 := store_at (es' := es1) (t' := t1) ho hd
    by_cases tf : t1.tooFull = true
    · rw [tf]
      simp only [Bool.not_false, Bool.and_self, if_true]
      have big : (es.size + 1) * 5 ≥ t.mask * 3 := by
        unfold SetTable.tooFull SetTable.fill at tf
        rw [ok1.size, ok1.nod, em1, esz1] at tf
        exact of_decide_eq_true tf
      obtain ⟨g1, g2⟩ := good_size mk fl (by omega) big
      obtain ⟨t2, es2, gave2, hR, ok2, em2, epl2, eled2⟩ := relay_all (t := t1) (es := es1) (wanted := grown es1.size) (by rw [esz1]; exact g1.full.1) (by rw [esz1]; exact g1.full.2) (by rw [esz1]; omega)
      have hpr := relayAll_perm t1 es1 (grown es1.size)
      rw [hR] at hpr ⊢
      dsimp only at hpr ⊢
      have hsz2 : es2.size = es1.size := by rw [← Array.length_toList, hpr.length_eq, Array.length_toList]
      refine wpAny_bind (hgw _ ?_)
      refine wpAny_bind (wpAny_storeSet_of ho1 rfl ?_ (by rw [sizeLine_eq]; omega))
      refine wpAny_pure ?_
      dsimp only
      refine wpAny_pure (h _ _ (hsb1.trans (Heap.SameBut.update _ a _)) ⟨_, es2, _, t2, store_at ho1 rfl, hex, rfl, ok2, by rw [em2, esz1]; exact g1, by rw [em2, hsz2, esz1]; exact g2, by rw [epl2]; exact hpl1, by rw [eled2]; exact hled1, hel1.perm hpr, (hpr.map _).trans hp1⟩)
    · rw [Bool.eq_false_iff.mpr tf]
      simp only [Bool.not_false, Bool.and_false, Bool.false_eq_true, if_false]
      have small : es1.size * 5 < t1.mask * 3 := by
        unfold SetTable.tooFull SetTable.fill at tf
        rw [ok1.size, ok1.nod] at tf
        exact Nat.lt_of_not_le fun z => tf (decide_eq_true z)
      refine wpAny_pure ?_
      dsimp only
      exact wpAny_pure (h _ _ hsb1 ⟨_, es1, _, t1, ho1, hex, rfl, ok1, by rw [em1]; exact mk, small, hpl1, hled1, hel1, hp1⟩)
end SetT
set_option Elab.async false
set_option linter.all false
set_option maxRecDepth 100000
set_option maxHeartbeats 4000000
namespace SetT
open PySem PySem.SetTable PySem.Spec PyProof.Rows
theorem fresh_int {prog : Program} {w : World} {h : Heap} {a : Addr} (hget : h.get? a = some { cls := .type "set", dict := none, data := .set #[] 0 (.fresh 0 0 (!byT w)) }) : SI prog w h a [] := by
  refine ⟨_, #[], 0, .fresh 0 0 (!byT w), hget, ⟨rfl, rfl, rfl⟩, rfl, ⟨full7, (by show 7 % 2 = 1; decide), rfl, fun i j _ h => absurd h (Nat.not_lt_zero _), fun i v h => ?_, rfl, fun i v e h => ?_⟩, .inl rfl, (by show 0 * 5 < 7 * 3; decide), rfl, rfl, fun e he => ?_, .nil⟩
  · exact absurd (show (#[] : Array Nat)[i]? = some v from h) (by simp)
  · exact absurd (show (#[] : Array Nat)[i]? = some v from h) (by simp)
  · simp at he
section
variable {prog : Program} {w : World} {A : Around} {R : Result → Shared → Prop} {I : Addr} {fp wr : List Addr} {G : Array GenState → Array GenState → Prop} {n : Nat} {P : Nat → Value → Prop} {St : Nat → Shared → Prop}
theorem int_loop (W : WalksS prog w A.in1 I fp wr G n P St) (S : Addr) (hSf : S ∉ fp) (val : Nat → Int) (hval : ∀ i v, P i v → ∃ t, v = .int (val i) t) (hb : n ≤ 250) :
    ∀ (k i : Nat) (s : Shared), n - i = k → i ≤ n → St i s → SI prog w s.heap S (firstMet val i) →
      (∀ s', Moved (S :: wr) G s s' → SI prog w s'.heap S (firstMet val n) → R (.ok (.ret .none)) s') →
      codeAny (model prog w) A (.builtin "set.update.loop" ⟨[.ref S, .ref I], []⟩) R s := by
  have hSw : S ∉ wr := fun h => hSf (W.sub _ h)
  have hsub : ∀ b ∈ wr, b ∈ S :: wr := fun b hb => List.mem_cons_of_mem _ hb
  intro k
  induction k with
  | zero =>
    intro i s hk hi hst hS hR
    have hin : i = n := by omega
    subst hin
    refine codeAny_builtin F.entry_set_update_loop ?_
    rw [Around.under_plainId F.plain_set_update_loop _]
    show wpAny _ A.in1 (pyNext (.ref I) >>= _) _ _ s
    refine wpAny_bind (W.done s _ _ hst fun s' hm => ?_)
    show wpAny _ A.in1 (ret Value.none) _ _ s'
    exact wpAny_pure (hR s' (hm.mono hsub) (hS.at' fun o e => hm.heap S o hSw e))
  | succ k ih =>
    intro i s hk hi hst hS hR
    have hlt : i < n := by omega
    refine codeAny_builtin F.entry_set_update_loop ?_
    rw [Around.under_plainId F.plain_set_update_loop _]
    show wpAny _ A.in1 (pyNext (.ref I) >>= _) _ _ s
    refine wpAny_bind (W.item i s _ _ hlt hst fun v s' hP hst' hm => ?_)
    obtain ⟨t, rfl⟩ := hval i v hP
    have hS' := hS.at' fun o e => hm.heap S o hSw e
    show wpAny _ A.in1 (holding [Value.int (val i) t] (setAdd S (.int (val i) t)) >>= _) _ _ s'
    refine wpAny_bind (wpAny_holding ?_)
    unfold setAdd
    refine wpAny_holding ?_
    refine wpAny_bind ((intKind prog w).pyHash (k := val i) (intKind_is _ _ _ _) ?_)
    have hlen := firstMet_length_le val i
    refine add_int (s := { s' with toks := s'.toks + 1 }) (intKind_is _ _ _ _) hS' (by omega) fun h' r hsb hS2 => ?_
    rw [← firstMet_succ] at hS2
    refine wpAny_pure ⟨plainId_quiet F.plain_set_update_loop _, ih (i + 1) _ (by omega) hlt (W.frame _ s' _ _ hst' (Nat.le_succ _) fun b hb o e => ?_) hS2 fun s'' hm'' hS'' => ?_⟩
    · rw [hsb.2 b (fun h : b = S => hSf (by rw [← h]; exact hb))]; exact e
    · refine hR s'' (Moved.trans W.gtrans ((hm.mono hsub).then_heap (Nat.le_succ _) fun b o hb e => ?_) hm'') hS''
      rw [hsb.2 b (fun h : b = S => hb (by rw [h]; exact List.mem_cons_self))]; exact e
end
variable {prog : Program} {w : World} {A : Around} {E : Value → Shared → Prop} {s : Shared}
theorem new_led (a : Value) {Q₁ : Value → Shared → Prop}
    (h : Q₁ (.ref s.heap.objs.size) { s with heap := s.heap.push { cls := .type "set", dict := none, data := .set #[] 0 (.fresh 0 0 (!byT w)) } }) :
    codeAny (model prog w) A (.call (.builtin "set.__new__") ⟨[.type "set", a], []⟩) (wants Q₁ E) s := by
  refine codeAny_of_tree ?_
  show wpAny _ A.in1 (do checkBuiltinCall "set.__new__" ⟨[.type "set", a], []⟩; again (.builtin "set.__new__" ⟨[.type "set", a], []⟩)) _ _ s
  refine wpAny_bind (wpAny_of_eq (F.newCall_set_1 a) (wpAny_pure ⟨plainId_quiet F.plain_set_new _, codeAny_builtin F.entry_set_new ?_⟩))
  rw [Around.under_plainId F.plain_set_new _]
  unfold Builtin.«set.__new__» Builtin.Frozenset.newClass
  have hsub := sub_set_self
  obtain ⟨hp, g, d, tk, os⟩ := s
  dsimp only
  wp_walk
  refine wpAny_askSetting (wpAny_pure ?_)
  dsimp only
  simp only [newObj]
  refine wpAny_bind (wpAny_alloc (wpAny_pure ?_))
  exact wpAny_pure h
theorem call_set_ints {l : Addr} {items : Array Value} {ns : List Int} {Q : Value → Shared → Prop}
    (hh : A.handled = none) (hl : s.heap.IsList l items) (hi : IntsAre items.toList ns) (hb : items.size ≤ 250)
    (h : ∀ (h' : Heap) (tk : Nat), SI prog w h' s.heap.objs.size (firstMet (fun i => ns.getD i 0) items.size) →
      (∀ b o, b < s.heap.objs.size → s.heap.get? b = some o → h'.get? b = some o) → Q (.ref s.heap.objs.size) { s with heap := h', toks := tk }) :
    wpAny (model prog w) A (call (.type "set") [.ref l]) Q E s := by
  obtain ⟨c, tl, hmro⟩ := F.called_set.mro
  have hmade := F.called_set.made
  have hsub := F.called_set.sub
  refine wpAny_call (codeAny_of_tree ?_)
  show wpAny _ _ (callAny (.type "set") _) _ _ _
  refine wpAny_pure ⟨Code.quiet_builtin _ (by decide +kernel), codeAny_builtin F.entry_type_call ?_⟩
  rw [Around.under_plain (weight_type_call_type "set" [.ref l] []) rfl]
  have h1 := F.called_set.notType
  have h2 := F.called_set.canCreate
  have hct := F.typeCall_set_1 (.ref l)
  repeat (any_goals (first | assumption | wp_step))
  refine codeAny_mono (new_led (prog := prog) (w := w) (.ref l) (E := E) (Q₁ := fun obj s₁ => obj = .ref s.heap.objs.size ∧ s₁ = { s with heap := s.heap.push { cls := .type "set", dict := none, data := .set #[] 0 (.fresh 0 0 (!byT w)) } }) ⟨rfl, rfl⟩) fun r s₁ hr => ?_
  cases r with
  | error e => exact hr
  | ok fl =>
    cases fl with
    | ret obj =>
      obtain ⟨rfl, rfl⟩ := hr
      have hS : (s.heap.push { cls := .type "set", dict := none, data := .set #[] 0 (.fresh 0 0 (!byT w)) }).get? s.heap.objs.size = some { cls := .type "set", dict := none, data := .set #[] 0 (.fresh 0 0 (!byT w)) } := Heap.get?_push_size _ rfl
      have hT : Shared.TypeIs { s with heap := s.heap.push { cls := .type "set", dict := none, data := .set #[] 0 (.fresh 0 0 (!byT w)) } } (.ref s.heap.objs.size) "set" := ⟨_, hS, rfl⟩
      have hli := F.called_set.init.lookup
      have hbi := F.called_set.init.bind (.ref s.heap.objs.size)
      repeat (any_goals (first | assumption | wp_step))
      refine codeAny_mono (codeAny_call_builtin (R := wants (fun r s₂ => r = .none ∧ ∃ h' tk, s₂ = { s with heap := h', toks := tk } ∧
          SI prog w h' s.heap.objs.size (firstMet (fun i => ns.getD i 0) items.size) ∧
          (∀ b o, b < s.heap.objs.size → s.heap.get? b = some o → h'.get? b = some o)) E) F.called_set.init.plain F.entry_set_init (check_set_init_1 hT ?_)) fun r₂ s₂ hr₂ => ?_
      · obtain ⟨ol, hol, hcl, nl, hdl⟩ := hl
        obtain ⟨ocls, odict, odata, oslots⟩ := ol
        simp only at hcl hdl
        subst hcl; subst hdl
        have hol' : (s.heap.push { cls := .type "set", dict := none, data := .set #[] 0 (.fresh 0 0 (!byT w)) }).get? l = some { cls := .type "list", dict := odict, data := .seq items nl, slots := oslots } := Heap.get?_push_of_some _ hol
        have hsls := F.sub_list_set
        have hslf := F.sub_list_frozenset
        have hne : (Value.type "list" == Value.type "dict") = false := by decide
        have hl1 : (s.heap.push { cls := .type "set", dict := none, data := .set #[] 0 (.fresh 0 0 (!byT w)) }).IsList l items := ⟨_, hol', rfl, nl, rfl⟩
        unfold Builtin.«set.__init__» noKeywords Builtin.Frozenset.updateFrom
        generalize hPI : pyIter = PI
        wp_walk
        subst hPI
        refine wpAny_pyIter_list hl1 ?_
        refine wpAny_bind (wpAny_runValue ?_)
        have hlS : l < s.heap.objs.size := Heap.lt_size hol
        have hh3 : A.in1.in1.in1.handled = none := by simp [hh]
        have hneI : l ≠ (s.heap.push { cls := .type "set", dict := none, data := .set #[] 0 (.fresh 0 0 (!byT w)) }).objs.size := by
          rw [Heap.size_push]; exact Nat.ne_of_lt (Nat.lt_succ_of_lt hlS)
        have hSf : s.heap.objs.size ∉ [(s.heap.push { cls := .type "set", dict := none, data := .set #[] 0 (.fresh 0 0 (!byT w)) }).objs.size, l] := by
          rw [Heap.size_push]; simp only [List.mem_cons, List.mem_singleton, List.not_mem_nil, or_false, not_or]
          exact ⟨Nat.ne_of_lt (Nat.lt_succ_self _), Nat.ne_of_gt hlS⟩
        have hval : ∀ (i : Nat) (v : Value), items[i]? = some v → ∃ t, v = .int ((fun i => ns.getD i 0) i) t := fun i v hv =>
          IntsAre.int_at hi i v (by rw [Array.getElem?_toList]; exact hv)
        refine int_loop ((Walks.list hh3 _ l hneI items).toS) s.heap.objs.size
          hSf (fun i => ns.getD i 0) hval hb (items.size - 0) 0 _ (by omega) (Nat.zero_le _)
          ⟨⟨_, Heap.get?_push_size _ rfl, rfl, rfl⟩, (hl1.push _)⟩ ?hS0 ?hR
        case hS0 =>
          have hget : ((s.heap.push { cls := .type "set", dict := none, data := .set #[] 0 (.fresh 0 0 (!byT w)) }).push { cls := .type "list_iterator", data := .fields #[.ref l, .int 0 0] }).get? s.heap.objs.size
              = some { cls := .type "set", dict := none, data := .set #[] 0 (.fresh 0 0 (!byT w)) } := Heap.get?_push_of_some _ hS
          exact fresh_int hget
        case hR =>
          intro s' hm hS'
          obtain ⟨h', g', d', tk', os'⟩ := s'
          have eg : g' = s.gens := hm.gens
          have ed : d' = s.drawn := hm.drawn
          have eo : os' = s.os := hm.os
          subst eg; subst ed; subst eo
          show wpAny _ _ _ _ _ _
          refine wpAny_pure ?_
          show wpAny _ _ (ret Value.none) _ _ _
          refine wpAny_pure ⟨rfl, h', tk', rfl, hS', fun b o hb e => ?_⟩
          have hb1 : b ≠ s.heap.objs.size := Nat.ne_of_lt hb
          have hb2 : b ≠ (s.heap.push { cls := .type "set", dict := none, data := .set #[] 0 (.fresh 0 0 (!byT w)) }).objs.size := by
            rw [Heap.size_push]; exact Nat.ne_of_lt (Nat.lt_succ_of_lt hb)
          exact hm.heap b o (by simp only [List.mem_cons, List.mem_singleton, List.not_mem_nil, or_false, not_or]; exact ⟨hb1, hb2⟩) (Heap.get?_push_of_some _ (Heap.get?_push_of_some _ e))
      · cases r₂ with
        | error e => exact hr₂
        | ok fl₂ =>
          cases fl₂ with
          | ret r =>
            obtain ⟨rfl, h', tk, rfl, hS', hk'⟩ := hr₂
            repeat (any_goals (first | assumption | wp_step))
            exact h _ _ hS' hk'
          | _ => exact hr₂.elim
    | _ => exact hr.elim
end SetT
set_option Elab.async false
set_option linter.all false
set_option maxRecDepth 100000
set_option maxHeartbeats 4000000
namespace SetT
open PySem PySem.SetTable PySem.Spec PyProof.Rows
theorem slot_si_next : Slot "set_iterator" "__next__" "set_iterator.__next__" :=
  .of (owner := "set_iterator") (n := "__next__") (by rw [typeLookup_type, builtinLookup_eq_fast]; kernel_rfl) (by decide +kernel) (by decide +kernel) (by decide +kernel)
    (by first | exact .inl (by decide +kernel) | exact .inr (by decide +kernel)) (by rw [isSubtype_type]; kernel_rfl)
theorem entry_si_next : entryFor table "set_iterator.__next__" = some Builtin.«set_iterator.__next__» := entryFor_of_tree (by kernel_rfl)
theorem owner_si : Manifest.owners.lookup (String.ofList ['r', 'o', 't', 'a', 'r', 'e', 't', 'i', '_', 't', 'e', 's'].reverse) = some Manifest.sig_set_iterator := by kernel_rfl
theorem args_si_next (a : Value) : argsOk "set_iterator.__next__" ⟨[a], []⟩ := by
  unfold argsOk; rw [signature?_of (id := "set_iterator.__next__") (n := ['_', '_', 't', 'x', 'e', 'n', '_', '_']) (o := ['r', 'o', 't', 'a', 'r', 'e', 't', 'i', '_', 't', 'e', 's']) (by kernel_rfl) owner_si]; kernel_rfl
theorem slot_si_iter : Slot "set_iterator" "__iter__" "set_iterator.__iter__" :=
  .of (owner := "set_iterator") (n := "__iter__") (by rw [typeLookup_type, builtinLookup_eq_fast]; kernel_rfl) (by decide +kernel) (by decide +kernel) (by decide +kernel)
    (by first | exact .inl (by decide +kernel) | exact .inr (by decide +kernel)) (by rw [isSubtype_type]; kernel_rfl)
theorem entry_si_iter : entryFor table "set_iterator.__iter__" = some Builtin.«dict_keyiterator.__iter__» :=
  entryFor_alias (id' := "dict_keyiterator.__iter__") (by kernel_rfl) rfl (by decide +kernel) (by kernel_rfl)
theorem args_si_iter (a : Value) : argsOk "set_iterator.__iter__" ⟨[a], []⟩ := by
  unfold argsOk; rw [signature?_of (id := "set_iterator.__iter__") (n := ['_', '_', 'r', 'e', 't', 'i', '_', '_']) (o := ['r', 'o', 't', 'a', 'r', 'e', 't', 'i', '_', 't', 'e', 's']) (by kernel_rfl) owner_si]; kernel_rfl
theorem entry_set_iter : entryFor table "set.__iter__" = some Builtin.«frozenset.__iter__» :=
  entryFor_alias (id' := "frozenset.__iter__") (by kernel_rfl) rfl (by decide +kernel) (by kernel_rfl)
theorem pick_perm {α : Type} (next : Nat → Nat) : ∀ (fuel k : Nat) (left : List α) (out : Array α), left.length = fuel → (pickOrder.go next fuel k left out).toList.Perm (out.toList ++ left)
  | 0, k, left, out, h => by
    rw [List.length_eq_zero_iff.mp h, List.append_nil]
    exact .rfl
  | fuel + 1, k, left, out, h => by
    unfold pickOrder.go
    have hlt : next k % left.length < left.length := Nat.mod_lt _ (by omega)
    rw [List.getElem?_eq_getElem hlt]
    dsimp only
    refine (pick_perm next fuel (k + 1) _ _ (by rw [List.length_eraseIdx, if_pos hlt]; omega)).trans ?_
    rw [Array.toList_push, List.append_assoc]
    refine List.Perm.append_left _ ?_
    show List.Perm ([left[next k % left.length]] ++ left.eraseIdx (next k % left.length)) left
    generalize next k % left.length = i at *
    rw [List.eraseIdx_eq_take_drop_succ]
    have e : left = left.take i ++ left[i] :: left.drop (i + 1) := by rw [← List.drop_eq_getElem_cons hlt, List.take_append_drop]
    refine List.Perm.trans ?_ (List.Perm.of_eq e.symm)
    exact (List.perm_middle (a := left[i]) (l₁ := left.take i) (l₂ := left.drop (i + 1))).symm
def ordOf (w : World) (a : Addr) (ep : Nat) (es : Array (Int × Value)) : Array (Int × Value) := if byT w = true then pickOrder (w.params.setOrder a ep) es else es
theorem ord_perm (w : World) (a : Addr) (ep : Nat) (es : Array (Int × Value)) : (ordOf w a ep es).toList.Perm es.toList := by
  unfold ordOf
  split
  · unfold pickOrder
    have := pick_perm (w.params.setOrder a ep) es.size 0 es.toList #[] (by simp)
    simpa using this
  · exact .rfl
theorem ord_size (w : World) (a : Addr) (ep : Nat) (es : Array (Int × Value)) : (ordOf w a ep es).size = es.size := by
  rw [← Array.length_toList, (ord_perm w a ep es).length_eq, Array.length_toList]
def IsSI (h : Heap) (it a : Addr) (slot i n ep : Nat) : Prop := ∃ o, h.get? it = some o ∧ o.cls = .type "set_iterator" ∧ o.data = .fields #[.int slot 0, .int i 0, .ref a, .int n 0, .int ep 0]
theorem IsSI.typeIs {s : Shared} {it a : Addr} {slot i n ep : Nat} (x : IsSI s.heap it a slot i n ep) : s.TypeIs (.ref it) "set_iterator" := let ⟨o, ho, hc, _⟩ := x; ⟨o, ho, hc⟩
variable {prog : Program} {w : World} {A : Around} {E : Value → Shared → Prop} {s : Shared}
theorem below_next {xs : Array Nat} (hr : Rise xs) {i j : Nat} (h : xs[i]? = some j) : below xs (j + 1) = i + 1 := by
  obtain ⟨b1, b2, b3⟩ := below_spec hr (j + 1)
  obtain ⟨h1, h2⟩ := getD_of h
  rcases Nat.lt_trichotomy (below xs (j + 1)) (i + 1) with z | z | z
  · have h3 := b3 i (by omega) h1
    omega
  · exact z
  · have h3 := b2 (i + 1) z
    have h4 := hr i (i + 1) (Nat.lt_succ_self i) (by omega)
    omega
theorem below_zero {xs : Array Nat} (hr : Rise xs) : below xs 0 = 0 := by
  obtain ⟨b1, b2, b3⟩ := below_spec hr 0
  cases hz : below xs 0 with
  | zero => rfl
  | succ m => exact absurd (b2 m (by omega)) (Nat.not_lt_zero _)
theorem set_next {a : Addr} {o : Obj} {es : Array (Int × Value)} {ep : Nat} {t : SetTable} {slot i : Nat} {Q : Option (Value × Nat) → Shared → Prop} (ho : s.heap.get? a = some o) (hd : o.data = .set es ep t) (ok : SetOk t es) (hf : t.fits es.size = true)
    (hpl : t.plain = true) (hled : t.led = !byT w) (hsl : byT w = false → below t.place slot = i)
    (h : ∀ slot' : Nat, (byT w = false → i < es.size → below t.place slot' = i + 1) → Q (((ordOf w a ep es)[i]?).map fun e => (e.2, slot')) s) :
    wpAny (model prog w) A (setNext a slot i ep) Q E s := by
  unfold setNext
  refine wpAny_bind (wpAny_setState_of ho hd hf ?_)
  dsimp only
  unfold setsByText
  refine wpAny_bind (wpAny_bind (wpAny_askSetting (wpAny_pure ?_)))
  show wpAny _ _ (if byT w = true then _ else _) _ _ _
  cases hb : byT w with
  | true =>
    simp only [↓reduceIte, bne_self_eq_false, Bool.false_eq_true]
    unfold setWalk
    refine wpAny_bind (wpAny_bind (wpAny_setState_of ho hd hf ?_))
    dsimp only
    unfold setsByText
    refine wpAny_bind (wpAny_bind (wpAny_askSetting (wpAny_pure ?_)))
    show wpAny _ _ (if byT w = true then _ else _) _ _ _
    rw [hb]
    simp only [↓reduceIte]
    refine wpAny_bind (wpAny_askSetting (wpAny_pure ?_))
    refine wpAny_pure ?_
    have := h slot (fun z => by rw [hb] at z; cases z)
    unfold ordOf at this
    rw [if_pos hb] at this
    exact this
  | false =>
    simp only [Bool.false_eq_true, ↓reduceIte]
    refine wpAny_ite_split (fun hab => ?_) (fun _ => ?_)
    · have hab' : (!t.plain && decide (es.size > 1)) = true := hab
      rw [hpl] at hab'
      cases hab'
    · refine wpAny_bind ?_
      show wpAny _ _ (if (!t.led && !es.isEmpty) = true then unsupported "set:maker-not-led" else pure ()) _ _ _
      rw [hled, hb]
      simp only [Bool.not_false, Bool.not_true, Bool.false_and, Bool.false_eq_true, ↓reduceIte]
      refine wpAny_pure ?_
      rw [hsl hb]
      by_cases hi : i < es.size
      · have hp : t.place[i]? = some (t.place.getD i 0) := of_getD (by rw [ok.size]; exact hi)
        have h2 := h (t.place.getD i 0 + 1) (fun _ _ => below_next ok.rise hp)
        unfold ordOf at h2
        rw [if_neg (by rw [hb]; exact Bool.false_ne_true), Array.getElem?_eq_getElem hi] at h2
        rw [Array.getElem?_eq_getElem hi, hp]
        exact wpAny_pure h2
      · have h2 := h 0 (fun _ z => absurd z hi)
        unfold ordOf at h2
        rw [if_neg (by rw [hb]; exact Bool.false_ne_true), Array.getElem?_eq_none (by omega)] at h2
        rw [Array.getElem?_eq_none (by omega)]
        exact wpAny_pure h2
end SetT
set_option Elab.async false
set_option linter.all false
set_option maxRecDepth 100000
set_option maxHeartbeats 4000000
namespace SetT
open PySem PySem.SetTable PySem.Spec PyProof.Rows
variable {prog : Program} {w : World} {A : Around} {E : Value → Shared → Prop} {s : Shared}
theorem iter_set {a : Addr} {o : Obj} {es : Array (Int × Value)} {ep : Nat} {t : SetTable} {Q : Value → Shared → Prop} (ho : s.heap.get? a = some o) (hex : o.ExactSet) (hd : o.data = .set es ep t) (hf : t.fits es.size = true) (hpl : t.plain = true)
    (hQ : Q (.ref s.heap.objs.size) { s with heap := s.heap.push { cls := .type "set_iterator", data := .fields #[.int 0 0, .int 0 0, .ref a, .int es.size 0, .int ep 0] } }) :
    wpAny (model prog w) A (pyIter (.ref a)) Q E s := by
  have hT : s.TypeIs (.ref a) "set" := ⟨o, ho, hex.1⟩
  refine wpAny_pyIter_slot hT PySem.F.slot_set_iter (wpAny_call_entry PySem.F.slot_set_iter hT entry_set_iter ?_ (PySem.F.args_set_iter_1 _))
  unfold Builtin.«frozenset.__iter__»
  refine wpAny_bind (wpAny_of_eq (a := a) (by rfl) ?_)
  unfold Builtin.Frozenset.sizeOf
  refine wpAny_bind (wpAny_bind (wpAny_setEntries_of ho hd hf (wpAny_pure ?_)))
  unfold setDrawn
  refine wpAny_bind (wpAny_bind (wpAny_setState_of ho hd hf ?_))
  dsimp only
  unfold setsByText
  refine wpAny_bind (wpAny_bind (wpAny_askSetting (wpAny_pure ?_)))
  refine wpAny_pure ?_
  refine wpAny_ite_split (fun hab => ?_) (fun _ => ?_)
  · have hab' : (!byT w && (!t.plain && decide (es.size > 1))) = true := hab
    rw [hpl] at hab'
    simp at hab'
  refine wpAny_bind (wpAny_pure ?_)
  refine wpAny_bind (wpAny_setEpoch_of ho hd hf ?_)
  refine wpAny_bind (wpAny_newObj_type (wpAny_pure ⟨_, rfl, "set_iterator", _, ⟨_, Heap.get?_push_size _ rfl, rfl⟩, slot_si_next.lookup, ?_⟩))
  simpa [rawInt] using hQ
theorem next_item {it a : Addr} {o : Obj} {es : Array (Int × Value)} {ep slot i : Nat} {t : SetTable} {Q : Option Value → Shared → Prop} (hit : IsSI s.heap it a slot i es.size ep) (ho : s.heap.get? a = some o) (hd : o.data = .set es ep t) (ok : SetOk t es) (hf : t.fits es.size = true)
    (hpl : t.plain = true) (hled : t.led = !byT w) (hsl : byT w = false → below t.place slot = i) (hi : i < es.size)
    (hQ : ∀ v h' slot', (ordOf w a ep es)[i]?.map (·.2) = some v → IsSI h' it a slot' (i + 1) es.size ep → (byT w = false → below t.place slot' = i + 1) → Heap.SameBut it s.heap h' → Q (some v) { s with heap := h' }) :
    wpAny (model prog w) A (pyNext (.ref it)) Q E s := by
  obtain ⟨oi, hoi, hci, hdi⟩ := id hit
  unfold pyNext
  refine wpAny_bind (wpAny_attempt (wpAny_callSpecial?_slot (name := Str.ofString "__next__") hit.typeIs slot_si_next
    (wpAny_call_entry slot_si_next hit.typeIs entry_si_next ?_ (args_si_next _))))
  unfold Builtin.«set_iterator.__next__»
  refine wpAny_bind (wpAny_of_eq (a := (.ref it, [])) (by rfl) ?_)
  refine wpAny_bind (wpAny_fieldsOf hoi hdi ?_)
  dsimp only
  refine wpAny_bind (wpAny_setEntries_of ho hd hf ?_)
  rw [if_neg (by simp)]
  dsimp only [Int.toNat_natCast]
  refine wpAny_bind (set_next ho hd ok hf hpl hled hsl fun slot' hs' => ?_)
  have hio : i < (ordOf w a ep es).size := by rw [ord_size]; exact hi
  rw [Array.getElem?_eq_getElem hio]
  dsimp only [Option.map_some]
  refine wpAny_bind (wpAny_setField hoi hdi (by simp) ?_)
  have hoi1 := Heap.get?_update_self (Obj.mapFields (·.setIfInBounds 0 (rawInt (slot' : Int)))) hoi (Obj.isFreed_of_fields (Obj.data_mapFields hdi _))
  have hdi1 := Obj.data_mapFields hdi (·.setIfInBounds 0 (rawInt (slot' : Int)))
  refine wpAny_bind (wpAny_setField (s := { s with heap := s.heap.update it (Obj.mapFields (·.setIfInBounds 0 (rawInt (slot' : Int)))) }) hoi1 hdi1 (by simp) ?_)
  have hoi2 := Heap.get?_update_self (Obj.mapFields (·.setIfInBounds 1 (rawInt ((i : Int) + 1)))) hoi1 (Obj.isFreed_of_fields (Obj.data_mapFields hdi1 _))
  have hdi2 := Obj.data_mapFields hdi1 (·.setIfInBounds 1 (rawInt ((i : Int) + 1)))
  have hit' : IsSI ((s.heap.update it (Obj.mapFields (·.setIfInBounds 0 (rawInt (slot' : Int))))).update it (Obj.mapFields (·.setIfInBounds 1 (rawInt ((i : Int) + 1))))) it a slot' (i + 1) es.size ep :=
    ⟨_, hoi2, (Obj.cls_mapFields ..).trans ((Obj.cls_mapFields ..).trans hci), by rw [hdi2]; simp [rawInt]⟩
  exact wpAny_pure ⟨_, rfl, wpAny_pure (hQ _ _ slot' (by rw [Array.getElem?_eq_getElem hio]; rfl) hit' (fun z => hs' z hi) ((Heap.SameBut.update ..).trans (Heap.SameBut.update ..)))⟩
theorem next_end {it a : Addr} {o : Obj} {es : Array (Int × Value)} {ep slot : Nat} {t : SetTable} {Q : Option Value → Shared → Prop} (hh : A.handled = none) (hit : IsSI s.heap it a slot es.size es.size ep) (ho : s.heap.get? a = some o) (hd : o.data = .set es ep t) (ok : SetOk t es) (hf : t.fits es.size = true)
    (hpl : t.plain = true) (hled : t.led = !byT w) (hsl : byT w = false → below t.place slot = es.size)
    (hQ : ∀ h', Heap.ExtBut it s.heap h' → Q none { s with heap := h' }) :
    wpAny (model prog w) A (pyNext (.ref it)) Q E s := by
  obtain ⟨oi, hoi, hci, hdi⟩ := id hit
  unfold pyNext
  refine wpAny_bind (wpAny_attempt (wpAny_callSpecial?_slot (name := Str.ofString "__next__") hit.typeIs slot_si_next
    (wpAny_call_entry slot_si_next hit.typeIs entry_si_next ?_ (args_si_next _))))
  unfold Builtin.«set_iterator.__next__»
  refine wpAny_bind (wpAny_of_eq (a := (.ref it, [])) (by rfl) ?_)
  refine wpAny_bind (wpAny_fieldsOf hoi hdi ?_)
  dsimp only
  refine wpAny_bind (wpAny_setEntries_of ho hd hf ?_)
  rw [if_neg (by simp)]
  dsimp only [Int.toNat_natCast]
  refine wpAny_bind (set_next ho hd ok hf hpl hled hsl fun slot' hs' => ?_)
  rw [Array.getElem?_eq_none (by rw [ord_size]; exact Nat.le_refl _)]
  dsimp only [Option.map_none]
  refine wpAny_bind (wpAny_setField hoi hdi (by simp) ?_)
  refine wpAny_bind ?_
  simp only [newExc, newTuple]
  refine wpAny_bind (wpAny_newObj_type ?_ (by size_fits))
  refine wpAny_bind (m := firstArgMember _ _) (wpAny_of_eq (a := Value.none) (by first | rfl | (simp only [firstArgMember]; rfl)) ?_)
  refine wpAny_newObj_type ?_ (by size_fits)
  simp only [raiseNew]
  refine wpAny_bind (wpAny_handled ?_)
  rw [show A.in1.handled = none from hh]
  refine wpAny_bind (wpAny_pure (wpAny_throw ?_))
  refine wpAny_bind (wpAny_isInstance (T := "StopIteration") (b := true) ⟨_, Heap.get?_push_size _ rfl, rfl⟩ isSubtype_stop ?_)
  exact wpAny_pure (hQ _ (((Heap.SameBut.update ..).extBut.push _).push _))
theorem iter_si {it a : Addr} {slot i n ep : Nat} {Q : Value → Shared → Prop} (hit : IsSI s.heap it a slot i n ep) (h : Q (.ref it) s) : wpAny (model prog w) A (pyIter (.ref it)) Q E s := by
  refine wpAny_pyIter_slot hit.typeIs slot_si_iter (wpAny_call_entry slot_si_iter hit.typeIs entry_si_iter ?_ (args_si_iter _))
  show wpAny _ _ (ret (.ref it)) _ _ s
  exact wpAny_pure ⟨_, rfl, "set_iterator", _, hit.typeIs, slot_si_next.lookup, h⟩
end SetT
set_option Elab.async false
set_option linter.all false
set_option maxRecDepth 100000
set_option maxHeartbeats 4000000
namespace SetT
open PySem PySem.SetTable PySem.Spec PyProof.Rows
variable {prog : Program} {w : World} {A : Around} {E : Value → Shared → Prop} {s : Shared}
theorem hint_set {r : Addr} {Q : Bool → Shared → Prop} (hT : s.TypeIs (.ref r) "set") (h : Q false s) : wpAny (model prog w) A (Builtin.List.listLengthHint (.ref r)) Q E s := by
  unfold Builtin.List.listLengthHint
  refine wpAny_bind (wpAny_specialOf hT PySem.F.slot_set_len.lookup ?_)
  generalize hid : ("set.__len__" : String) = id0
  wp_delta
  rw [show splitId id0 = some ("set", "__len__") from by subst hid; decide +kernel]
  subst hid
  refine wpAny_bind (wpAny_isInstance (T := "set") (b := true) hT (by rw [isSubtype_type]; kernel_rfl) ?_)
  refine wpAny_ite_split (fun hab => absurd hab (by decide)) (fun _ => ?_)
  refine wpAny_ite_split (fun _ => ?_) (fun hab => absurd (by decide +kernel) hab)
  refine wpAny_bind (wpAny_typeOf hT ?_)
  exact wpAny_pure h
theorem walks_set (hh : A.handled = none) (I a : Addr) (hne : a ≠ I) {o : Obj} {es : Array (Int × Value)} {ep : Nat} {t : SetTable} (hd : o.data = .set es ep t) (ok : SetOk t es) (hf : t.fits es.size = true) (hpl : t.plain = true) (hled : t.led = !byT w) :
    Walks prog w A I [I, a] [I] es.size (fun i v => (ordOf w a ep es)[i]?.map (·.2) = some v) (fun i h => (∃ slot, IsSI h I a slot i es.size ep ∧ (byT w = false → below t.place slot = i)) ∧ h.get? a = some o) where
  sub := fun b hb => by simp at hb; simp [hb]
  frame := fun i h h' ⟨⟨slot, ⟨oi, hoi, r⟩, hs⟩, ho⟩ hk => ⟨⟨slot, ⟨oi, hk I (by simp) oi hoi, r⟩, hs⟩, hk a (by simp) o ho⟩
  item := fun i s Q E hi ⟨⟨slot, hit, hs⟩, ho⟩ hQ => next_item hit ho hd ok hf hpl hled hs hi fun v h' slot' hv hit' hs' sb => hQ v h' s.toks hv ⟨⟨slot', hit', hs'⟩, (sb.2 a hne).trans ho⟩ fun b o hb e => (sb.2 b (fun z => hb (by simp [z]))).trans e
  done := fun s Q E ⟨⟨slot, hit, hs⟩, ho⟩ hQ => next_end hh hit ho hd ok hf hpl hled hs fun h' he' => hQ h' s.toks fun b o hb e => he' b o (fun z => hb (by simp [z])) e
  self := fun _ _ _ _ ⟨⟨slot, hit, hs⟩, ho⟩ hQ => iter_si hit hQ
theorem kdl_set {a : Addr} {o : Obj} {es : Array (Int × Value)} {ep : Nat} {t : SetTable} (hex : o.ExactSet) (hd : o.data = .set es ep t) (ok : SetOk t es) (hf : t.fits es.size = true) (hpl : t.plain = true) (hled : t.led = !byT w) :
    PySem.W.KdlSrc prog w "set" a a es.size (fun i v => (ordOf w a ep es)[i]?.map (·.2) = some v) (fun h => h.get? a = some o) where
  type := fun _ ho => ⟨o, ho, hex.1⟩
  there := fun _ ho => ⟨Heap.lt_size ho, Heap.lt_size ho⟩
  keep := fun _ _ ho hk => hk a (.inl rfl) o ho
  notList := by decide
  notTuple := by decide
  hint := fun _ _ _ _ ho hq => hint_set ⟨o, ho, hex.1⟩ hq
  iter := fun _ s hh ho => ⟨_, _, (fun _ _ hq => iter_set ho hex hd hf hpl hq), walks_set hh _ a (Nat.ne_of_lt (Heap.lt_size ho)) hd ok hf hpl hled, ⟨⟨0, ⟨_, Heap.get?_push_size _ rfl, rfl, rfl⟩, fun _ => below_zero ok.rise⟩, Heap.get?_push_of_some _ ho⟩⟩
theorem sorted_set {a : Addr} {ks : List Int} {Q : Value → Shared → Prop} (hh : A.handled = none) (hS : SI prog w s.heap a ks) (h64 : ks.length < 64)
    (h : ∀ (h' : Heap) (tk : Nat) (p : Addr) (out : Array Value) (e : Nat) (ns' : List Int), (∀ b o, s.heap.get? b = some o → h'.get? b = some o) → s.heap.objs.size ≤ p → h'.get? p = some (seqObj "list" out e) → IntsAre out.toList ns' → ns'.Perm ks → ns'.Pairwise (· ≤ ·) → Q (.ref p) { s with heap := h', toks := tk }) :
    wpAny (model prog w) A (call (.builtin "sorted") [.ref a]) Q E s := by
  obtain ⟨o, es, ep, t, ho, hex, hd, ok, mk, fl, hpl, hled, hel, hp⟩ := hS
  have hf := fits_of ok (by omega)
  have hlen : es.size = ks.length := by have := hp.length_eq; simpa using this
  refine Calls.call_function_entry kind_sorted plain_sorted entry_sorted (args_sorted1 _) ?_
  unfold Builtin.«sorted»
  refine wpAny_bind (m := checkCount "sorted" 1 1 _) (wpAny_pure ?_)
  refine wpAny_bind (PySem.W.dcollect (A := A.in1) (kdl_set hex hd ok hf hpl hled) (by simp [hh]) ho (by rw [sizeLine_eq]; omega) fun h1 tk acc hk1 hsz hacc => ?_)
  have hl1 : acc.toList.length = es.size := by rw [Array.length_toList]; exact hacc.1
  refine wpAny_bind (wpAny_newList ?_ (by rw [hl1, sizeLine_eq]; omega))
  have hoL : (h1.push (seqObj "list" acc.toList.toArray 0)).get? h1.objs.size = some (seqObj "list" acc.toList.toArray 0) := Heap.get?_push_size _ rfl
  have hI : IntsAre acc.toList ((ordOf w a ep es).toList.map fun e => ival e.2) := by
    have key : ∀ (vs : List Value) (ls : List (Int × Value)), vs.length = ls.length → (∀ (i : Nat) v, vs[i]? = some v → ls[i]?.map (·.2) = some v) → (∀ e ∈ ls, ∃ t, e.2 = .int (ival e.2) t) → IntsAre vs (ls.map fun e => ival e.2) := by
      intro vs
      induction vs with
      | nil => intro ls hl _ _; cases ls with | nil => exact .nil | cons _ _ => cases hl
      | cons v vs ih =>
        intro ls hl hv hi
        cases ls with
        | nil => cases hl
        | cons m ls =>
          have h0 : m.2 = v := Option.some.inj (hv 0 v rfl)
          obtain ⟨t, et⟩ := hi m (.head _)
          rw [List.map_cons, ← h0, et]
          exact .cons _ _ (ih ls (by simpa using hl) (fun i v' hv' => hv (i + 1) v' (by simpa using hv')) fun e he => hi e (.tail _ he))
    refine key _ _ (by rw [hl1, Array.length_toList, ord_size]) (fun i v hv => ?_) fun e he => ?_
    · have := hacc.2 i v (by rw [← Array.getElem?_toList]; exact hv)
      rw [Array.getElem?_toList]
      exact this
    · obtain ⟨⟨k', hk', _⟩, _⟩ := hel e ((ord_perm w a ep es).mem_iff.mp he)
      obtain ⟨tk, e2⟩ := Value.isInt_shape (k := k') (v := e.2) hk'
      exact ⟨tk, by rw [e2]; rfl⟩
  have hpp : ((ordOf w a ep es).toList.map fun e => ival e.2).Perm ks := ((ord_perm w a ep es).map _).trans hp
  refine wpAny_bind (wpAny_holding (wpAny_call_entry slot_list_sort ⟨_, hoL, rfl⟩ entry_list_sort (list_sort_tree hoL hI (by omega) fun out ns' a1 a2 a3 => ⟨_, rfl, ?_⟩) (args_list_sort _)))
  obtain ⟨e, he⟩ := sortedHeap_at (out := out) hoL
  refine wpAny_pure ⟨_, rfl, h _ tk h1.objs.size out e ns' (fun b o eb => ?_) ?_ he a1 (a2.trans hpp) a3⟩
  · have hlt : b < h1.objs.size := Heap.lt_size (hk1 b o eb)
    rw [sortedHeap_old (Nat.ne_of_lt hlt) (by rw [size_push']; exact Nat.lt_succ_of_lt hlt)]
    exact Heap.get?_push_of_some _ (hk1 b o eb)
  · exact Nat.le_of_lt hsz
end SetT
namespace L2
open PySem PySem.Spec PyProof.Rows SetT
section
variable {X : Cx}
def siHO (P : Program) (w : World) (a : Addr) (ks : List Int) : HO := .ext fun h => SI P w h a ks
theorem si_ok {P : Program} {w : World} {H : Hp} {h : Heap} {a : Addr} {ks : List Int} (x : SI P w h a ks) : ObjOk P w H h a (siHO P w a ks) :=
  ⟨x, let ⟨o, _, _, _, ho, _⟩ := x; ⟨o, ho⟩, fun h1 h2 x k => x.at' k⟩
def rSetZ (P : Program) (w : World) (K : PySem.W.Frag) : List V → Hp → VK → Prop := fun xs H Q => ∃ p, ∃ ns : List Int, xs = [.ref p] ∧ SqL K H p (ns.map V.int) ∧ ns.length ≤ 250 ∧ ∀ q H', Same H H' → H' q = some (siHO P w q (firstMet (fun i => ns.getD i 0) ns.length)) → Q (.ref q) H'
theorem call_setL {k : Nat} (hr : Room k X.A) : CallR X (.type "set") (rSetZ X.prog X.w X.K) := by
  intro pins s σ H xs us Q I r h
  obtain ⟨p, ns, rfl, hp, h250, q⟩ := h
  obtain ⟨u, rfl, rx⟩ := vals1 r
  cases (show u = Value.ref p from rx)
  obtain ⟨its, rv, pl, hz⟩ := I.list hp
  have hvl := rv.length
  rw [List.length_map] at hvl
  refine call_set_ints (ns := ns) hr.hd pl.isList (by simpa using ints_of rv) (by rw [List.size_toArray, ← hvl]; exact h250) fun h' tk hS kp => ?_
  have esz : its.toArray.size = ns.length := by rw [List.size_toArray]; omega
  rw [esz] at hS
  have kp' : ∀ b o, s.heap.get? b = some o → h'.get? b = some o := fun b o e => kp b o (Heap.lt_size e) e
  exact ⟨.ref s.heap.objs.size, _, I.laid (t' := tk) (o := siHO X.prog X.w s.heap.objs.size (firstMet (fun i => ns.getD i 0) ns.length)) kp' (Nat.le_refl _) (si_ok hS), rfl, q _ _ (same_add (I.hok.fresh (Nat.le_refl _))) upd_same⟩
def rSortedS (P : Program) (w : World) : List V → Hp → VK → Prop := fun xs H Q => ∃ a, ∃ ks : List Int, xs = [.ref a] ∧ H a = some (siHO P w a ks) ∧ ks.length < 64 ∧ ∀ p (ns' : List Int) H', Same H H' → H' p = some (.lst (ns'.map V.int)) → ns'.Perm ks → ns'.Pairwise (· ≤ ·) → Q (.ref p) H'
theorem call_sortedS {k : Nat} (hr : Room k X.A) : CallR X (.builtin "sorted") (rSortedS X.prog X.w) := by
  intro pins s σ H xs us Q I r h
  obtain ⟨a, ks, rfl, ha, h64, q⟩ := h
  obtain ⟨u, rfl, rx⟩ := vals1 r
  cases (show u = Value.ref a from rx)
  have hS : SI X.prog X.w s.heap a ks := (I.hok a _ ha).1
  refine sorted_set hr.hd hS h64 fun h' tk p out e ns' kp hp he a1 a2 a3 => ?_
  have hln := a2.length_eq
  refine ⟨.ref p, _, I.laid (t' := tk) (a := p) (o := .lst (ns'.map V.int)) kp hp ?_, rfl, q _ ns' _ (same_add (I.hok.fresh hp)) upd_same a2 a3⟩
  exact ⟨by rw [List.length_map]; exact leMil (by omega), out.toList, e, lst_vals a1, he⟩
end
end L2
set_option Elab.async false
set_option linter.all false
set_option maxRecDepth 100000
set_option maxHeartbeats 4000000
namespace L2
open PySem PySem.Spec PyProof.Rows
section
variable {X : Cx}
def rCount (K : PySem.W.Frag) : V → List V → Hp → VK → Prop := fun x vs H Q => ∃ l, ∃ ns : List Int, ∃ k : Int, x = .ref l ∧ vs = [.int k] ∧ SqL K H l (ns.map V.int) ∧ ns.length ≤ 1000 ∧ Q (.int (ns.count k : Nat)) H
theorem mt_count {K : PySem.W.Frag} (hK : X.K = K) : MtM X "list.count" (rCount K) := by
  subst hK
  intro pins s σ H x vs v us Q I rx rv h
  obtain ⟨l, ns, k, rfl, rfl, hH, hz, q⟩ := h
  cases rx
  obtain ⟨u, rfl, ru⟩ := rv.one
  obtain ⟨t, rfl⟩ := (show ∃ t, u = Value.int k t from ru)
  obtain ⟨its, r, pl, hz'⟩ := I.list hH
  have hvl := r.length
  rw [List.length_map] at hvl
  exact count_list_ints (ns := ns) pl.isList (ints_of r) ⟨.int (ns.count k : Nat), H, I.tok _, ⟨_, rfl⟩, q⟩
theorem firstMet_nodup (val : Nat → Int) : ∀ i, (firstMet val i).Nodup
  | 0 => List.nodup_nil
  | i + 1 => by
    rw [firstMet_succ]
    unfold step_dedup
    split
    · exact firstMet_nodup val i
    · rename_i h
      rw [List.nodup_append]
      refine ⟨firstMet_nodup val i, List.nodup_cons.mpr ⟨List.not_mem_nil, List.nodup_nil⟩, fun a ha b hb z => ?_⟩
      rw [List.mem_singleton] at hb
      subst hb z
      exact h (List.any_eq_true.mpr ⟨_, ha, beq_self_eq_true _⟩)
theorem mem_firstMet (ns : List Int) (k : Int) : k ∈ firstMet (fun i => ns.getD i 0) ns.length ↔ k ∈ ns := by
  have key := firstMet_any (fun i => ns.getD i 0) ns.length k
  have e : (List.range ns.length).map (fun i => ns.getD i 0) = ns := by
    refine List.ext_getElem (by simp) fun i h1 h2 => ?_
    simp [List.getD_eq_getElem?_getD, List.getElem?_eq_getElem h2]
  rw [e] at key
  have f : ∀ l : List Int, (l.any (· == k) = true ↔ k ∈ l) := fun l => by
    rw [List.any_eq_true]
    exact ⟨fun ⟨x, hx, e⟩ => by rw [← eq_of_beq e]; exact hx, fun h => ⟨k, h, beq_self_eq_true k⟩⟩
  rw [← f, ← f, key]
end
end L2
set_option Elab.async false
set_option linter.all false
set_option maxRecDepth 100000
set_option maxHeartbeats 4000000
namespace My
open PySem L2 PyProof.Rows
theorem bSet : bootBuiltins "set" = some (.type "set") := by decide +kernel
theorem nl_ints (l : List Nat) : nl l = (l.map fun x : Nat => (x : Int)).map V.int := by unfold nl; rw [List.map_map]; rfl
theorem count_ints (l : List Nat) (x : Nat) : (l.map fun x : Nat => (x : Int)).count (x : Int) = l.count x := by
  induction l with
  | nil => rfl
  | cons y l ih =>
    rw [List.map_cons, List.count_cons, List.count_cons, ih]
    by_cases e : y = x
    · subst e; simp
    · have h1 : ((y : Int) == (x : Int)) = false := beq_eq_false_iff_ne.mpr fun z => e (by omega)
      have h2 : (y == x) = false := beq_eq_false_iff_ne.mpr e
      rw [h1, h2]
theorem ints_nat {ns : List Int} {fk : List Nat} (hp : ns.Perm (fk.map fun x : Nat => (x : Int))) : ns.map V.int = nl (ns.map Int.toNat) ∧ (ns.map Int.toNat).Perm fk := by
  have hnn : ∀ x ∈ ns, 0 ≤ x := fun x hx => by
    obtain ⟨y, _, rfl⟩ := List.mem_map.mp (hp.mem_iff.mp hx)
    omega
  constructor
  · unfold nl
    rw [List.map_map]
    refine List.map_congr_left fun x hx => ?_
    show V.int x = V.int ((x.toNat : Nat) : Int)
    rw [Int.toNat_of_nonneg (hnn x hx)]
  · have := hp.map Int.toNat
    rw [List.map_map] at this
    have e : fk.map (Int.toNat ∘ fun x : Nat => (x : Int)) = fk := by
      conv => rhs; rw [← List.map_id fk]
      exact List.map_congr_left fun x _ => rfl
    rwa [e] at this
theorem deg_snoc (es : List (Nat × Nat)) (l : List Nat) (k x : Nat) : deg es (l ++ [k]) x = deg es l x + (if (es.getD k (0, 0)).1 = x then 1 else 0) + (if (es.getD k (0, 0)).2 = x then 1 else 0) := by
  rw [deg_append]
  show _ + (_ + _ + 0) = _
  omega
section
variable {P : Program} {w : World} {K : PySem.W.Frag} {mg : Str → Option Value} {base : Heap}
abbrev sFa : Stmt := top 16
abbrev nFa : List Str := ["_law_net_here", "_law_met", "_law_taken_here", "_law_behind", "_law_pair", "_law_both", "_law_k", "_law_point", "_law_tint", "_law_other"]
def spFa : Sp := fun vs H Q _ => ∃ (p l d1 d2 pr : Addr) (n : Nat) (q : Addr) (ts : List V) (es : List (Nat × Nat)) (M : List Nat) (u v : Nat) (kvs1 kvs2 : List (List Key × V)) (U1 U2 : Nat → Nat → Prop), vs = [.ref p, .ref l, .ref d1, .ref d2, .ref pr] ∧ NetZ H p n q ts es ∧ H l = some (.lst (nl M)) ∧ M.length ≤ 64 ∧ (∀ k ∈ M, k < es.length) ∧
  H d1 = some (.dT kvs1) ∧ Keys kvs1 U1 ∧ H d2 = some (.dT kvs2) ∧ Keys kvs2 U2 ∧ H pr = some (.lst (nl [u, v])) ∧ u ≠ v ∧ (∀ x t, 1 ≤ deg es M x → (t = u ∨ t = v) → (U2 x t ↔ U1 x (if deg es M x = 1 then swt u v t else t))) ∧ ∀ H', Same H H' → Q (.bl true) H'
theorem scFa : FnScope nFa ["_law_net_here", "_law_met", "_law_taken_here", "_law_behind", "_law_pair"] (defScope sFa) := ⟨rfl, rfl, rfl, by decide +kernel, rfl, by decide +kernel, by decide +kernel⟩
theorem ok_fa {f : Addr} {fd : FuncData} (F : Fun K "_law_free_as_due" "_law_free_as_due" sFa f fd) (T : Bi mg) (hso : mg "sorted" = none) (hse : mg "set" = none) : FnOk P w K mg base CX0 1 f fd ["_law_net_here", "_law_met", "_law_taken_here", "_law_behind", "_law_pair"] spFa := by
  refine F.ok scFa (fun vs H Q E h => ?_) (fun cdv A outer s H vs Q E hr h => ?_)
  · obtain ⟨p, l, d1, d2, pr, n, q, ts, es, M, u, v, kvs1, kvs2, U1, U2, rfl, _⟩ := h
    rfl
  · obtain ⟨p, l, d1, d2, pr, n, qa, ts, es, M, u, v, kvs1, kvs2, U1, U2, rfl, N, hL, h64, hSl, hd1, hK1, hd2, hK2, hpr, huv, hdue, q⟩ := h
    have hu := hu_of hr
    refine ⟨_, pss_cons (ps_set (i := 5) scFa.nd rfl (Or.inl rfl) (pe_lst pa_nil))
      (pss_cons (ps_for PassesOwn.never rfl (pi_list (pv 1)) (pg_name (i := 6) scFa.nd rfl (Or.inl rfl))
        (pss_one (ps_set (i := 5) scFa.nd rfl (Or.inl rfl) (pe_op op_catLS (pv 5) (pe_callTy call_list_ofS rfl T.list bList (pa_c (pe_ix ix_tup (pe_ix ix_tup (pv 0) pe_int (fun _ _ => rfl)) (pv 6) (fun _ _ => rfl)) pa_nil))))))
      (pss_cons (ps_for PassesOwn.never rfl (pi_list (pe_callB (call_sortedS hr) rfl hso bSorted (pa_c (pe_callTy (call_setL hr) rfl hse bSet (pa_c (pv 5) pa_nil)) pa_nil))) (pg_name (i := 7) scFa.nd rfl (Or.inl rfl))
        (pss_one (ps_for PassesOwn.never rfl (pi_list (pv 4)) (pg_name (i := 8) scFa.nd rfl (Or.inl rfl))
          (pss_cons (ps_set (i := 9) scFa.nd rfl (Or.inl rfl) (pv 8))
          (pss_cons (ps_if (pt_cmpR op_eq (pe_bm PySem.F.plainAttrs_list PySem.F.slot_list_count PySem.F.type_list_count (mt_count rfl) (pv 5) (pa_c (pv 7) pa_nil)) pe_int (nomark _))
            (pss_one (ps_set (i := 9) scFa.nd rfl (Or.inl rfl) (pe_op op_sub (pe_op op_add (pe_ix ix_list (pv 4) pe_int (fun _ _ => rfl)) (pe_ix ix_list (pv 4) pe_int (fun _ _ => rfl))) (pv 8)))) pss_nil)
          (pss_one (ps_if (pt_cmpR op_ne (pe_cmp (pc_din hu (pe_tupS (pa_c (pv 7) (pa_c (pv 8) pa_nil))) (pv 3))) (pe_cmp (pc_din hu (pe_tupS (pa_c (pv 7) (pa_c (pv 9) pa_nil))) (pv 2))) (nomark _)) (pss_one (ps_ret pe_bl)) pss_nil)))))))
      (pss_one (ps_ret pe_bl)))), ?_⟩
    have h60 := N.n60
    refine ⟨Nat.zero_le _, fun b0 hb0 => ?_⟩
    refine ⟨_, rfl, l, rfl, ⟨_, SqL.of (same_new hb0 _ _ hL)⟩, for_list (K := K) (a := l) (xs := nl M) (fun i σ G => ∃ (b : Addr) (B : List Nat) (v6 : Option V), σ = [some (.ref p), some (.ref l), some (.ref d1), some (.ref d2), some (.ref pr), some (.ref b), v6, none, none, none] ∧ Same H G ∧ G b = some (.lst (nl B)) ∧ (∀ x, B.count x = deg es (M.take i) x) ∧ B.length = 2 * i ∧ ∀ x ∈ B, x < n)
      ⟨b0, [], _, rfl, same_new hb0, by rw [upd_same]; rfl, fun x => rfl, rfl, fun x hx => by cases hx⟩ (fun i σ G _ ⟨_, _, _, _, z, _⟩ => SqL.of (z _ _ hL)) (fun i y σ G hy ⟨b, B, v3, e, SG, gb, hc, hbl, hbn⟩ => ?_) (fun σ G ⟨b, B, v3, e, SG, gb, hc, hbl, hbn⟩ => ?_)⟩
    · subst e
      obtain ⟨k, hk, rfl⟩ : ∃ k, M[i]? = some k ∧ y = V.int (k : Int) := by
        unfold nl at hy
        rw [List.getElem?_map] at hy
        cases z : M[i]? with
        | none => rw [z] at hy; cases hy
        | some k => rw [z] at hy; cases hy; exact ⟨k, rfl, rfl⟩
      have hiS : i < M.length := (List.getElem?_eq_some_iff.mp hk).1
      have hke : k < es.length := hSl k (List.mem_of_getElem? hk)
      obtain ⟨a, ha, hta⟩ := N.at' hke
      have hok := N.ok _ (getD_mem hke)
      refine ⟨_, rfl, _, rfl, p, _, _, _, rfl, rfl, SqT.of (SG _ _ N.e1), rfl, _, rfl, qa, _, _, _, rfl, rfl, SqT.of (SG _ _ N.e2), atI_nat ha, a, _, rfl, .inr (SqT.of (SG _ _ hta)), fun l2 G2 s2 hl2 => ?_⟩
      refine ⟨b, l2, _, _, rfl, rfl, s2 _ _ gb, hl2, (by rw [nl_len, hbl]; show 2 * i + 2 ≤ 100000; omega), fun b3 G3 s3 hb3 => ?_⟩
      refine ⟨b3, B ++ [(es.getD k (0, 0)).1, (es.getD k (0, 0)).2], _, rfl, Same.trans (Same.trans SG s2) s3, by rw [hb3]; unfold nl; rw [List.map_append]; rfl, fun x => ?_, by rw [List.length_append, hbl]; show 2 * i + 2 = 2 * (i + 1); omega, fun x hx => ?_⟩
      · rw [List.take_add_one, hk, List.count_append, hc x]
        show _ = deg es (M.take i ++ [k]) x
        rw [deg_snoc, List.count_cons, List.count_cons, List.count_nil]
        simp only [beq_iff_eq]
        omega
      · rcases List.mem_append.mp hx with z | z
        · exact hbn x z
        · rcases List.mem_cons.mp z with rfl | z
          · exact hok.1
          · rw [List.mem_singleton.mp z]; exact hok.2.1
    · subst e
      rw [nl_len, List.take_length] at hc
      rw [nl_len] at hbl
      have gb' := gb
      rw [nl_ints] at gb'
      refine ⟨_, rfl, b, B.map fun x : Nat => (x : Int), rfl, SqL.of gb', by rw [List.length_map]; omega, fun sa G2 s2 hsa => ?_⟩
      generalize hks : firstMet (fun i => (B.map fun x : Nat => (x : Int)).getD i 0) (B.map fun x : Nat => (x : Int)).length = ks at hsa
      have hmem : ∀ k, k ∈ ks ↔ k ∈ B.map fun x : Nat => (x : Int) := fun k => by rw [← hks]; exact mem_firstMet _ k
      have hndk : ks.Nodup := by rw [← hks]; exact firstMet_nodup _ _
      have hkn : ∀ k ∈ ks, ∃ x : Nat, x ∈ B ∧ k = (x : Int) := fun k hk => by
        obtain ⟨x, hx, e⟩ := List.mem_map.mp ((hmem k).mp hk)
        exact ⟨x, hx, e.symm⟩
      have hnat : (ks.map Int.toNat).map (fun x : Nat => (x : Int)) = ks := by
        rw [List.map_map]
        conv => rhs; rw [← List.map_id ks]
        refine List.map_congr_left fun k hk => ?_
        obtain ⟨x, _, rfl⟩ := hkn k hk
        rfl
      have hnd2 : (ks.map Int.toNat).Nodup := by
        unfold List.Nodup
        rw [List.pairwise_map]
        refine List.Pairwise.imp_of_mem (fun {a b} ha hb hne z => ?_) hndk
        obtain ⟨x, _, rfl⟩ := hkn a ha
        obtain ⟨y, _, rfl⟩ := hkn b hb
        exact hne (by rw [show x = y from z])
      have hmem2 : ∀ x, x ∈ ks.map Int.toNat ↔ x ∈ B := fun x => by
        constructor
        · intro h
          obtain ⟨k, hk, rfl⟩ := List.mem_map.mp h
          obtain ⟨y, hy, rfl⟩ := hkn k hk
          exact hy
        · intro h
          exact List.mem_map.mpr ⟨(x : Int), (hmem _).mpr (List.mem_map.mpr ⟨x, h, rfl⟩), rfl⟩
      have hlk : (ks.map Int.toNat).length ≤ n := len_lt hnd2 fun x hx => hbn x ((hmem2 x).mp hx)
      rw [List.length_map] at hlk
      refine ⟨sa, ks, rfl, hsa, by omega, fun lr ns' G3 s3 hlr hp hs => ?_⟩
      rw [← hnat] at hp
      obtain ⟨hnl, hperm⟩ := ints_nat hp
      rw [hnl] at hlr
      generalize ns'.map Int.toNat = L at *
      have a3 : Same H G3 := Same.trans (Same.trans SG s2) s3
      have gb3 : G3 b = some (.lst ((B.map fun x : Nat => (x : Int)).map V.int)) := s3 _ _ (s2 _ _ gb')
      refine ⟨lr, rfl, ⟨_, SqL.of hlr⟩, for_list (K := K) (a := lr) (xs := nl L) (fun i σ G => (∃ v6 v7 v8 v9, σ = [some (.ref p), some (.ref l), some (.ref d1), some (.ref d2), some (.ref pr), some (.ref b), v6, v7, v8, v9]) ∧ Same G3 G) ⟨⟨_, _, _, _, rfl⟩, Same.refl _⟩ (fun i σ G _ ⟨_, z⟩ => SqL.of (z _ _ hlr)) (fun i y σ G hy ⟨⟨v6, v7, v8, v9, e⟩, g3⟩ => ?_) (fun σ G ⟨_, g3⟩ => q G (Same.trans a3 g3))⟩
      subst e
      obtain ⟨x, hx, rfl⟩ : ∃ k, L[i]? = some k ∧ y = V.int (k : Int) := by
        unfold nl at hy
        rw [List.getElem?_map] at hy
        cases z : L[i]? with
        | none => rw [z] at hy; cases hy
        | some k => rw [z] at hy; cases hy; exact ⟨k, rfl, rfl⟩
      have hxB : x ∈ B := (hmem2 x).mp (hperm.mem_iff.mp (List.mem_of_getElem? hx))
      have hdeg : 1 ≤ deg es M x := by
        have h1 := List.count_pos_iff.mpr hxB
        have h2 := hc x
        omega
      have aG : Same H G := Same.trans a3 g3
      refine ⟨_, rfl, pr, rfl, ⟨_, SqL.of (aG _ _ hpr)⟩, for_list (K := K) (a := pr) (xs := nl [u, v]) (fun j σ G' => (∃ v8 v9, σ = [some (.ref p), some (.ref l), some (.ref d1), some (.ref d2), some (.ref pr), some (.ref b), v6, some (.int (x : Int)), v8, v9]) ∧ Same G G') ⟨⟨_, _, rfl⟩, Same.refl _⟩ (fun j σ G' _ ⟨_, z⟩ => SqL.of (z _ _ (aG _ _ hpr))) (fun j y σ G' hy2 ⟨⟨v8, v9, e⟩, gG⟩ => ?_) (fun σ G' ⟨⟨v8, v9, e⟩, gG⟩ => by subst e; exact ⟨⟨_, _, _, _, rfl⟩, Same.trans g3 gG⟩)⟩
      subst e
      obtain ⟨t, rfl, htt⟩ : ∃ t : Nat, y = V.int (t : Int) ∧ (t = u ∨ t = v) := by
        match j, hy2 with
        | 0, hy2 => cases hy2; exact ⟨u, rfl, .inl rfl⟩
        | 1, hy2 => cases hy2; exact ⟨v, rfl, .inr rfl⟩
      have gS : Same H G' := Same.trans aG gG
      have gb4 : G' b = some (.lst ((B.map fun x : Nat => (x : Int)).map V.int)) := gG _ _ (g3 _ _ gb3)
      refine ⟨_, rfl, _, rfl, .inl ⟨rfl, _, SqL.of gb4⟩, _, rfl, b, _, _, rfl, rfl, SqL.of gb4, by rw [List.length_map]; omega, rfl, _, rfl, ?_⟩
      rw [count_ints, hc x]
      refine ite2 (fun hz => ?_) (fun hz => ?_)
      · have e : deg es M x = 1 := by have := V.int.inj (of_decide_eq_true hz); omega
        refine ⟨_, rfl, pr, _, _, _, rfl, rfl, SqL.of (gS _ _ hpr), rfl, _, rfl, pr, _, _, _, rfl, rfl, SqL.of (gS _ _ hpr), rfl, _, _, rfl, rfl, _, rfl, _, _, rfl, rfl, ?_⟩
        have hsw : (u : Int) + (v : Int) - (t : Int) = ((swt u v t : Nat) : Int) := by
          unfold swt
          rcases htt with rfl | rfl
          · rw [if_pos rfl]; omega
          · rw [if_neg (Ne.symm huv)]; omega
        dsimp only [gName]
        rw [hsw]
        refine ⟨_, rfl, _, rfl, rfl, fun t1 G1 x1 h1 => ⟨_, rfl, d2, _, rfl, DGet.t (k := ky x t) (x1 _ _ (gS _ _ hd2)) h1, ?_⟩⟩
        refine ⟨_, rfl, _, rfl, rfl, fun t2 G2 x2 h2 => ⟨_, rfl, d1, _, rfl, DGet.t (k := ky x (swt u v t)) (x2 _ _ (x1 _ _ (gS _ _ hd1))) h2, rfl, _, rfl, ?_⟩⟩
        have hbb : (valV kvs2 (ky x t)).isSome = (valV kvs1 (ky x (swt u v t))).isSome := by
          have := hdue x t hdeg htt
          rw [if_pos e] at this
          exact Bool.eq_iff_iff.mpr ((hK2 x t).trans (this.trans (hK1 x (swt u v t)).symm))
        rw [hbb, show ∀ b : Bool, (!decide (V.bl b = V.bl b)) = false from fun b => by simp]
        exact iteF ⟨⟨_, _, rfl⟩, Same.trans (Same.trans gG x1) x2⟩
      · have e : ¬ deg es M x = 1 := fun z => hz (decide_eq_true (by rw [z]; rfl))
        refine ⟨_, rfl, _, rfl, rfl, fun t1 G1 x1 h1 => ⟨_, rfl, d2, _, rfl, DGet.t (k := ky x t) (x1 _ _ (gS _ _ hd2)) h1, ?_⟩⟩
        refine ⟨_, rfl, _, rfl, rfl, fun t2 G2 x2 h2 => ⟨_, rfl, d1, _, rfl, DGet.t (k := ky x t) (x2 _ _ (x1 _ _ (gS _ _ hd1))) h2, rfl, _, rfl, ?_⟩⟩
        have hbb : (valV kvs2 (ky x t)).isSome = (valV kvs1 (ky x t)).isSome := by
          have := hdue x t hdeg htt
          rw [if_neg e] at this
          exact Bool.eq_iff_iff.mpr ((hK2 x t).trans (this.trans (hK1 x t).symm))
        rw [hbb, show ∀ b : Bool, (!decide (V.bl b = V.bl b)) = false from fun b => by simp]
        exact iteF ⟨⟨_, _, rfl⟩, Same.trans (Same.trans gG x1) x2⟩
end
end My
set_option Elab.async false
set_option linter.all false
set_option maxRecDepth 100000
set_option maxHeartbeats 4000000
namespace My
open PySem L2 PyProof.Rows
section
variable {P : Program} {w : World} {K : PySem.W.Frag} {mg : Str → Option Value} {base : Heap}
abbrev sTn : Stmt := top 17
abbrev nTn : List Str := ["_law_net_here", "_law_tints_here", "_law_point", "_law_pair", "_law_found", "_law_met", "_law_k", "_law_due", "_law_behind", "_law_ahead"]
def spTn : Sp := fun vs H Q _ => ∃ (p r : Addr) (n : Nat) (q : Addr) (ts : List V) (es : List (Nat × Nat)) (tl : List (Option Nat)) (pt : Nat) (pr : Addr) (u v : Nat), vs = [.ref p, .ref r, .int (pt : Int), .ref pr] ∧ NetZ H p n q ts es ∧ H r = some (.tup (tv tl)) ∧ tl.length = es.length ∧ es.length < 64 ∧ pt < n ∧ H pr = some (.lst (nl [u, v])) ∧ u ≠ v ∧ CleanTo es tl es.length ∧
  ∀ H' t (tl' : List (Option Nat)), Same H H' → H' t = some (.tup (tv tl')) → tl'.length = es.length → CleanTo es tl' es.length → Q (.ref t) H'
theorem scTn : FnScope nTn ["_law_net_here", "_law_tints_here", "_law_point", "_law_pair"] (defScope sTn) := ⟨rfl, rfl, rfl, by decide +kernel, rfl, by decide +kernel, by decide +kernel⟩
theorem ok_tn {f : Addr} {fd : FuncData} (F : Fun K "_law_turn" "_law_turn" sTn f fd) (T : Bi mg) (FU : FnE P w K mg base "turned" ["net", "tints", "point", "one", "other"] 3 spTu) (FI : FnE P w K mg base "_law_is_tinting" ["_law_found", "_law_many"] 3 spIt) (FG : FnE P w K mg base "_law_come_to" ["_law_net_here", "_law_tints_here", "_law_point", "_law_pair"] 3 spCt)
    (FK : FnE P w K mg base "_law_taken" ["_law_net_here", "_law_tints_here"] 3 spTk) (FF : FnE P w K mg base "_law_free_as_due" ["_law_net_here", "_law_met", "_law_taken_here", "_law_behind", "_law_pair"] 3 spFa) : FnOk P w K mg base CX0 4 f fd ["_law_net_here", "_law_tints_here", "_law_point", "_law_pair"] spTn := by
  refine F.ok scTn (fun vs H Q E h => ?_) (fun cdv A outer s H vs Q E hr h => ?_)
  · obtain ⟨p, r, n, q, ts, es, tl, pt, pr, u, v, rfl, _⟩ := h
    rfl
  · obtain ⟨p, r, n, qa, ts, es, tl, pt, pr, u, v, rfl, N, hR, htl, h64, hpt, hpr, huv, hc, q⟩ := h
    refine ⟨_, pss_cons (ps_set (i := 4) scTn.nd rfl (Or.inl rfl) (pe_fc FU hr (pa_c (pv 0) (pa_c (pv 1) (pa_c (pv 2) (pa_c (pe_ix ix_list (pv 3) pe_int (fun _ _ => rfl)) (pa_c (pe_ix ix_list (pv 3) pe_int (fun _ _ => rfl)) pa_nil)))))))
      (pss_cons (ps_if (pt_not (pt_val (pe_fc FI hr (pa_c (pv 4) (pa_c (pe_callB call_len_seq rfl T.len bLen (pa_c (pv 1) pa_nil)) pa_nil))))) (pss_one (ps_ret pe_non)) pss_nil)
      (pss_cons (ps_set (i := 5) scTn.nd rfl (Or.inl rfl) (pe_fc FG hr (pa_c (pv 0) (pa_c (pv 1) (pa_c (pv 2) (pa_c (pv 3) pa_nil))))))
      (pss_cons (ps_for PassesOwn.never rfl (pi_range1 rfl T.range (pa_c (pe_callB call_len_seq rfl T.len bLen (pa_c (pv 1) pa_nil)) pa_nil)) (pg_name (i := 6) scTn.nd rfl (Or.inl rfl))
        (pss_cons (ps_set (i := 7) scTn.nd rfl (Or.inl rfl) (pe_ix ix_tup (pv 1) (pv 6) (fun _ _ => rfl)))
        (pss_cons (ps_if (pt_cmpR op_in_seq (pv 6) (pv 5) rfl) (pss_one (ps_set (i := 7) scTn.nd rfl (Or.inl rfl) (pe_op op_sub (pe_op op_add (pe_ix ix_list (pv 3) pe_int (fun _ _ => rfl)) (pe_ix ix_list (pv 3) pe_int (fun _ _ => rfl))) (pe_ix ix_tup (pv 1) (pv 6) (fun _ _ => rfl))))) pss_nil)
        (pss_one (ps_if (pt_cmpR op_ne (pe_ix ix_tup (pv 4) (pv 6) (fun _ _ => rfl)) (pv 7) (nomark _)) (pss_one (ps_ret pe_non)) pss_nil)))))
      (pss_cons (ps_set (i := 8) scTn.nd rfl (Or.inl rfl) (pe_fc FK hr (pa_c (pv 0) (pa_c (pv 4) pa_nil))))
      (pss_cons (ps_set (i := 9) scTn.nd rfl (Or.inl rfl) (pe_fc FK hr (pa_c (pv 0) (pa_c (pv 1) pa_nil))))
      (pss_cons (ps_if (PW.pt (pw_or (pt_cmpR op_isN (pv 8) pe_non (nomark _)) (pw_or1 (pt_not (pt_val (pe_fc FF hr (pa_c (pv 0) (pa_c (pv 5) (pa_c (pv 9) (pa_c (pv 8) (pa_c (pv 3) pa_nil))))))))))) (pss_one (ps_ret pe_non)) pss_nil)
      (pss_cons (ps_if (pt_cmpR (op_neD hr) (pe_fc FU hr (pa_c (pv 0) (pa_c (pv 4) (pa_c (pv 2) (pa_c (pe_ix ix_list (pv 3) pe_int (fun _ _ => rfl)) (pa_c (pe_ix ix_list (pv 3) pe_int (fun _ _ => rfl)) pa_nil)))))) (pv 1) (nomark _)) (pss_one (ps_ret pe_non)) pss_nil)
      (pss_cons (ps_if (pt_cmpR (op_neD hr) (pe_fc FU hr (pa_c (pv 0) (pa_c (pv 4) (pa_c (pv 2) (pa_c (pe_ix ix_list (pv 3) pe_int (fun _ _ => rfl)) (pa_c (pe_ix ix_list (pv 3) pe_int (fun _ _ => rfl)) pa_nil)))))) (pv 1) (nomark _)) (pss_one (ps_ret pe_non)) pss_nil)
      (pss_one (ps_ret (pv 4))))))))))), ?_⟩
    have hne : ∀ k, k < es.length → (es.getD k (0, 0)).1 ≠ (es.getD k (0, 0)).2 := fun k hk => (N.ok _ (getD_mem hk)).2.2
    refine ⟨_, rfl, _, rfl, _, rfl, _, rfl, pr, _, _, _, rfl, rfl, SqL.of hpr, rfl, _, rfl, pr, _, _, _, rfl, rfl, SqL.of hpr, rfl, p, r, n, qa, ts, es, tl, pt, u, v, rfl, N, hR, htl, h64, fun H1 fo S s1 hfo hS hRT => ?_⟩
    have hI : ∀ k ∈ S, InP tl u v k := fun k hk => ((hRT k).mp hk).2.1
    have hSn : S.Nodup := hS.imp fun z => Nat.ne_of_lt z
    have hlt : (trn tl u v S).length = es.length := by rw [trn_len]; exact htl
    have hct := trn_clean huv hRT hc
    refine ⟨_, rfl, _, rfl, r, _, rfl, .inr (SqT.of (s1 _ _ hR)), fo, trn tl u v S, (by rw [tv_len, hlt, htl]; rfl), hfo, _, rfl, iteF ?_⟩
    refine ⟨_, rfl, _, rfl, _, rfl, _, rfl, p, r, n, qa, ts, es, tl, pt, pr, u, v, rfl, N.same s1, s1 _ _ hR, htl, h64, hpt, s1 _ _ hpr, fun H2 me M s2 hme hMn hM => ?_⟩
    have a2 : Same H H2 := Same.trans s1 s2
    have hSM : ∀ k, k ∈ M ↔ k ∈ S := fun k => (hM k).trans (hRT k).symm
    have hML : M.length ≤ 64 := by have := len_lt hMn fun k hk => ((hM k).mp hk).1; omega
    refine ⟨_, rfl, r, _, rfl, .inr (SqT.of (a2 _ _ hR)), _, rfl, (by rw [tv_len]; omega), (by rw [tv_len]; omega), for_range (lo := 0) (n := (((tv tl).length : Nat) : Int).toNat) (fun k σ G => (∃ v6 v7, σ = [some (.ref p), some (.ref r), some (.int (pt : Int)), some (.ref pr), some (.ref fo), some (.ref me), v6, v7, none, none]) ∧ G = H2) ⟨⟨_, _, rfl⟩, rfl⟩ (fun k σ G hk ⟨⟨v6, v7, e⟩, eG⟩ => ?_) (fun σ G ⟨⟨v6, v7, e⟩, eG⟩ => ?_)⟩
    · subst e eG
      rw [tv_len] at hk
      have hkt : k < tl.length := by omega
      have hgk := tv_get (List.getElem?_eq_getElem hkt)
      refine ⟨_, rfl, _, rfl, r, _, _, _, rfl, rfl, SqT.of (a2 _ _ hR), (by rw [Int.zero_add]; exact atI_nat hgk), ?_⟩
      refine ⟨_, rfl, _, rfl, me, _, rfl, .inl (SqL.of hme), rfl, flat_nl _, _, rfl, ?_⟩
      refine ite2 (fun hz => ?_) (fun hz => ?_)
      · have hkS : k ∈ S := (hSM k).mp ((in_nl k M).mp (by have h5 : inV (.int (0 + (k : Int))) (nl M) = true := hz; rw [Int.zero_add] at h5; exact h5))
        have hfk : (tv (trn tl u v S))[k]? = some (tN (swp tl u v k)) := tv_get (trn_in hkS (hI k hkS))
        obtain ⟨t, ht, hsw⟩ : ∃ t : Nat, tl[k]? = some (some t) ∧ (V.int ((u : Int) + (v : Int) - (t : Int))) = tN (swp tl u v k) := by
          rcases hI k hkS with e | e
          · exact ⟨u, e, by rw [swp_u e]; show V.int _ = V.int _; congr 1; omega⟩
          · exact ⟨v, e, by rw [swp_v huv e]; show V.int _ = V.int _; congr 1; omega⟩
        have hgt : (tv tl)[k]? = some (.int (t : Int)) := tv_get ht
        refine ⟨_, rfl, pr, _, _, _, rfl, rfl, SqL.of (a2 _ _ hpr), rfl, _, rfl, pr, _, _, _, rfl, rfl, SqL.of (a2 _ _ hpr), rfl, _, _, rfl, rfl, _, rfl, _, rfl, r, _, _, _, rfl, rfl, SqT.of (a2 _ _ hR), (by rw [Int.zero_add]; exact atI_nat hgt), _, _, rfl, rfl, ?_⟩
        dsimp only [gName]
        rw [hsw]
        refine ⟨_, rfl, _, rfl, fo, _, _, _, rfl, rfl, SqT.of (s2 _ _ hfo), (by rw [Int.zero_add]; exact atI_nat hfk), _, rfl, (by generalize swp tl u v k = o; cases o <;> rfl), _, rfl, ?_⟩
        rw [show ∀ o : V, (!decide (o = o)) = false from fun o => by simp]
        exact iteF ⟨⟨_, _, rfl⟩, rfl⟩
      · have hkS : k ∉ S := fun z => hz (by show inV (.int (0 + (k : Int))) (nl M) = true; rw [Int.zero_add]; exact (in_nl k M).mpr ((hSM k).mpr z))
        have hfk : (tv (trn tl u v S))[k]? = some (tN tl[k]) := tv_get ((trn_out hkS).trans (List.getElem?_eq_getElem hkt))
        refine ⟨_, rfl, _, rfl, fo, _, _, _, rfl, rfl, SqT.of (s2 _ _ hfo), (by rw [Int.zero_add]; exact atI_nat hfk), _, rfl, (by cases tl[k] <;> rfl), _, rfl, ?_⟩
        rw [show ∀ o : V, (!decide (o = o)) = false from fun o => by simp]
        exact iteF ⟨⟨_, _, rfl⟩, rfl⟩
    · subst e eG
      refine ⟨_, rfl, _, rfl, p, fo, n, qa, ts, es, trn tl u v S, rfl, N.same a2, s2 _ _ hfo, hlt, hct, fun H3 db kvsb s3 hdb hKb => ?_⟩
      have a3 : Same H H3 := Same.trans a2 s3
      refine ⟨_, rfl, _, rfl, p, r, n, qa, ts, es, tl, rfl, N.same a3, a3 _ _ hR, htl, hc, fun H4 da kvsa s4 hda hKa => ?_⟩
      have a4 : Same H H4 := Same.trans a3 s4
      have hdg : ∀ x, deg es M x = deg es S x := fun x => deg_perm ((List.perm_ext_iff_of_nodup hMn hSn).mpr hSM)
      refine ⟨_, rfl, rfl, _, rfl, ?_⟩
      rw [show decide (V.ref db = V.non) = false from rfl]
      refine iteF ?_
      refine ⟨_, rfl, _, rfl, _, rfl, _, rfl, _, rfl, p, me, da, db, pr, n, qa, ts, es, M, u, v, kvsa, kvsb, Used es tl es.length, Used es (trn tl u v S) es.length, rfl, N.same a4, s4 _ _ (s3 _ _ hme), hML, (fun k hk => ((hM k).mp hk).1), hda, hKa, s4 _ _ hdb, hKb, a4 _ _ hpr, huv, (fun x t h1 ht => by rw [hdg x] at h1 ⊢; exact used_due huv hSn hRT hc hne h1 ht), fun H5 s5 => ⟨_, rfl, iteF ?_⟩⟩
      have a5 : Same H H5 := Same.trans a4 s5
      have f5 : Same H1 H5 := Same.trans (Same.trans (Same.trans s2 s3) s4) s5
      have sam : ∀ (G : Hp) (i : Nat) (a b : V), (tv tl)[i]? = some a → (tv tl)[i]? = some b → Sam K G 6 a b := fun G i a b h1 h2 => by
        rw [h1] at h2
        cases h2
        obtain ⟨o, _, rfl⟩ := tv_inv h1
        exact .inl ⟨rfl, by cases o <;> trivial⟩
      refine ⟨_, rfl, _, rfl, _, rfl, _, rfl, pr, _, _, _, rfl, rfl, SqL.of (a5 _ _ hpr), rfl, _, rfl, pr, _, _, _, rfl, rfl, SqL.of (a5 _ _ hpr), rfl, p, fo, n, qa, ts, es, trn tl u v S, pt, u, v, rfl, N.same a5, f5 _ _ hfo, hlt, h64, fun H6 t6 S6 s6 ht6 hS6 hRT6 => ?_⟩
      obtain rfl : S6 = S := rising_ext hS6 hS fun k => (hRT6 k).trans ((rt_iff (inp_trn huv hI)).trans (hRT k).symm)
      rw [(trn_back huv hI).1] at ht6
      have a6 : Same H H6 := Same.trans a5 s6
      refine ⟨_, rfl, t6, r, _, _, rfl, rfl, .inl ⟨SqT.of ht6, SqT.of (a6 _ _ hR)⟩, rfl, sam H6, _, rfl, iteF ?_⟩
      refine ⟨_, rfl, _, rfl, _, rfl, _, rfl, pr, _, _, _, rfl, rfl, SqL.of (a6 _ _ hpr), rfl, _, rfl, pr, _, _, _, rfl, rfl, SqL.of (a6 _ _ hpr), rfl, p, fo, n, qa, ts, es, trn tl u v S6, pt, v, u, rfl, N.same a6, s6 _ _ (f5 _ _ hfo), hlt, h64, fun H7 t7 S7 s7 ht7 hS7 hRT7 => ?_⟩
      obtain rfl : S7 = S6 := rising_ext hS7 hS fun k => (hRT7 k).trans (RT.comm.trans ((rt_iff (inp_trn huv hI)).trans (hRT k).symm))
      rw [(trn_back huv hI).2] at ht7
      have a7 : Same H H7 := Same.trans a6 s7
      refine ⟨_, rfl, t7, r, _, _, rfl, rfl, .inl ⟨SqT.of ht7, SqT.of (a7 _ _ hR)⟩, rfl, sam H7, _, rfl, iteF ?_⟩
      exact ⟨_, rfl, q H7 fo _ a7 (s7 _ _ (s6 _ _ (f5 _ _ hfo))) hlt hct⟩
end
end My
set_option Elab.async false
set_option linter.all false
set_option maxRecDepth 100000
set_option maxHeartbeats 4000000
namespace My
open PySem L2 PyProof.Rows
def Told (o : List V → HO) (G : Hp) (as : List Addr) (TL : List (List (Option Nat))) : Prop := as.length = TL.length ∧ ∀ (j : Nat) a tl, as[j]? = some a → TL[j]? = some tl → G a = some (o (tv tl))
theorem Told.same {o : List V → HO} {G G' : Hp} {as : List Addr} {TL : List (List (Option Nat))} (h : Told o G as TL) (s : Same G G') : Told o G' as TL := ⟨h.1, fun j a tl h1 h2 => s _ _ (h.2 j a tl h1 h2)⟩
theorem Told.add {o : List V → HO} {G : Hp} {as : List Addr} {TL : List (List (Option Nat))} (h : Told o G as TL) {a : Addr} {tl : List (Option Nat)} (e : G a = some (o (tv tl))) : Told o G (as ++ [a]) (TL ++ [tl]) := by
  refine ⟨by rw [List.length_append, List.length_append, h.1]; rfl, fun j b t h1 h2 => ?_⟩
  by_cases hj : j < as.length
  · rw [List.getElem?_append_left hj] at h1
    rw [List.getElem?_append_left (by rw [← h.1]; exact hj)] at h2
    exact h.2 j b t h1 h2
  · have hj1 : j = as.length := by
      have := (List.getElem?_eq_some_iff.mp h1).1
      rw [List.length_append, List.length_singleton] at this
      omega
    subst hj1
    rw [List.getElem?_append_right (Nat.le_refl _), Nat.sub_self] at h1
    rw [h.1, List.getElem?_append_right (Nat.le_refl _), Nat.sub_self] at h2
    cases h1
    cases h2
    exact e
theorem ref_app (as : List Addr) (a : Addr) : as.map V.ref ++ [V.ref a] = (as ++ [a]).map V.ref := by rw [List.map_append]; rfl
section
variable {P : Program} {w : World} {K : PySem.W.Frag} {mg : Str → Option Value} {base : Heap}
abbrev sLaw : Stmt := top 18
abbrev nLaw : List Str := ["_law_script", "_law_draws_here", "_law_net_here", "_law_many", "_law_tints_here", "_law_told_all", "_law_copies", "_law_k", "_law_number", "_law_one", "_law_other", "_law_found"]
def spLaw (K : PySem.W.Frag) : Sp := fun vs H Q _ => ∃ (a : Addr) (ns : List Int), vs = [.ref a] ∧ SqL K H a (ns.map V.int) ∧ ns.length ≤ 63 ∧ ∀ H', Q (.bl true) H'
theorem scLaw : FnScope nLaw ["_law_script"] (defScope sLaw) := ⟨rfl, rfl, rfl, by decide +kernel, rfl, by decide +kernel, by decide +kernel⟩
abbrev lwScope : Scope := compScope (retE (stOf 18 7))
theorem ndLw : (["_law_found"] : List Str).Nodup := by decide +kernel
theorem blkLw {f : Addr} {cdv : Value} {A : Around} {outer : List Env} {s : Shared} {H : Hp} {E : XK} :
    Blk (cxOf CX0 P w K mg base nLaw "law" (defScope sLaw) f cdv A outer s H E).nox lwScope [] ["_law_found"] [none] := by
  refine ⟨rfl, rfl, by decide +kernel, by decide +kernel, fun p hp => (by cases hp), fun y hy e => ?_, trivial⟩
  have hy' : y ∈ [((PySem.Str.ofString ".0" : Str), NameKind.local), (PySem.Str.ofString "_law_found", .local), (PySem.Str.ofString "list", .globalImplicit)] := hy
  simp only [List.mem_cons, List.not_mem_nil, or_false] at hy'
  rcases hy' with rfl | rfl | rfl <;> cases e
end
end My
set_option Elab.async false
set_option linter.all false
set_option maxRecDepth 100000
set_option maxHeartbeats 4000000
namespace L2
open PySem PySem.Spec PyProof.Rows
def rListS (K : PySem.W.Frag) : List V → Hp → VK → Prop := fun xs H Q => ∃ p ys, xs = [.ref p] ∧ (SqL K H p ys ∨ SqT K H p ys) ∧ ∀ l H', Same H H' → H' l = some (.lst ys) → Q (.ref l) H'
theorem call_list_ofSK {X : Cx} {K : PySem.W.Frag} (hK : X.K = K) : CallR X (.type "list") (rListS K) := by
  subst hK
  exact call_list_ofS
end L2
namespace My
open PySem L2 PyProof.Rows
section
variable {P : Program} {w : World} {K : PySem.W.Frag} {mg : Str → Option Value} {base : Heap}
theorem ok_law {f : Addr} {fd : FuncData} (F : Fun K "law" "law" sLaw f fd) (T : Bi mg) (FDs : FnE P w K mg base "_law_draws" ["_law_script", "_law_many"] 4 (spDs K)) (FD : FnE P w K mg base "_law_draw" ["_law_draws_here", "_law_k"] 4 (spDraw K)) (FNt : FnE P w K mg base "_law_net" ["_law_draws_here", "_law_at"] 4 (spNet K))
    (FT : FnE P w K mg base "_law_tints" ["_law_draws_here", "_law_at", "_law_net_here", "_law_many"] 4 (spTs K)) (FU : FnE P w K mg base "_law_turn" ["_law_net_here", "_law_tints_here", "_law_point", "_law_pair"] 4 spTn) : FnOk P w K mg base CX0 5 f fd ["_law_script"] (spLaw K) := by
  refine F.ok scLaw (fun vs H Q E h => ?_) (fun cdv A outer s H vs Q E hr h => ?_)
  · obtain ⟨a, ns, rfl, _⟩ := h
    rfl
  · obtain ⟨a, ns, rfl, hS, hl, q⟩ := h
    obtain ⟨tR, hTR, rest⟩ : ∃ t, PSs (cxOf CX0 P w K mg base nLaw "law" (defScope sLaw) f cdv A outer s H E).nox ((forB (stOf 18 6)).drop 4) t ∧
        ∀ (D : Ends) (G : Hp) (p : Addr) (n : Nat) (qa : Addr) (ts : List V) (es : List (Nat × Nat)) (r : Addr) (tl : List (Option Nat)) (to co : Addr) (us cs : List Addr) (TL : List (List (Option Nat))) (nu u v : Nat) (w1 w3 w7 w11 : Option V),
          NetZ G p n qa ts es → 2 ≤ n → G r = some (.tup (tv tl)) → tl.length = es.length → es.length ≤ 40 → CleanTo es tl es.length → u ≠ v → G to = some (.lst (us.map V.ref)) → G co = some (.lst (cs.map V.ref)) → to ≠ co → us.length ≤ 100 → cs.length ≤ 100 →
          (∀ (G' : Hp) (r' c' : Addr) (tl' : List (Option Nat)), (∀ b o, b ≠ to → b ≠ co → G b = some o → G' b = some o) → G' r' = some (.tup (tv tl')) → tl'.length = es.length → CleanTo es tl' es.length → G' c' = some (.lst (tv tl')) → c' ≠ to → c' ≠ co → G' to = some (.lst ((us ++ [r']).map V.ref)) → G' co = some (.lst ((cs ++ [c']).map V.ref)) →
            D.nx [some (.ref a), w1, some (.ref p), w3, some (.ref r'), some (.ref to), some (.ref co), w7, some (.int (nu : Int)), some (.int (u : Int)), some (.int (v : Int)), some (.ref r')] G') →
          t D [some (.ref a), w1, some (.ref p), w3, some (.ref r), some (.ref to), some (.ref co), w7, some (.int (nu : Int)), some (.int (u : Int)), some (.int (v : Int)), w11] G := by
      refine ⟨_, pss_cons (ps_set (i := 11) scLaw.nd rfl (Or.inl rfl) (pe_fc FU hr (pa_c (pv 2) (pa_c (pv 4) (pa_c (pe_op op_mod (pe_op op_fdiv (pv 8) pe_int) (pe_ix ix_tup (pv 2) pe_int (fun _ _ => rfl))) (pa_c (pe_lstS (pa_c (pv 9) (pa_c (pv 10) pa_nil))) pa_nil))))))
        (pss_cons (ps_if (pt_cmpR op_isN (pv 11) pe_non (nomark _)) (pss_one (ps_ret pe_bl)) pss_nil)
        (pss_cons (ps_expr (pe_bm PySem.F.plainAttrs_list PySem.F.slot_list_append PySem.F.type_list_append mt_append (pv 5) (pa_c (pv 11) pa_nil)))
        (pss_cons (ps_expr (pe_bm PySem.F.plainAttrs_list PySem.F.slot_list_append PySem.F.type_list_append mt_append (pv 6) (pa_c (pe_callTy call_list_of rfl T.list bList (pa_c (pv 11) pa_nil)) pa_nil)))
        (pss_one (ps_set (i := 4) scLaw.nd rfl (Or.inl rfl) (pv 11)))))), fun D G p n qa ts es r tl to co us cs TL nu u v w1 w3 w7 w11 N n2 hR htl h40 hc huv hto hco htc hul hcl fin => ?_⟩
      have hnp : (0 : Int) < (n : Int) := by omega
      obtain ⟨pt, hpt, hptn⟩ : ∃ pt : Nat, (nu : Int) / 524288 % (n : Int) = (pt : Int) ∧ pt < n := ⟨((nu : Int) / 524288 % (n : Int)).toNat, by have := mod_lo (n := (nu : Int) / 524288) hnp; omega, by have := mod_lo (n := (nu : Int) / 524288) hnp; have := mod_hi (n := (nu : Int) / 524288) hnp; omega⟩
      refine ⟨_, rfl, _, rfl, _, rfl, _, _, rfl, rfl, ⟨by decide, by decide⟩, _, rfl, p, _, _, _, rfl, rfl, SqT.of N.e1, rfl, _, _, rfl, rfl, hnp, _, rfl, _, rfl, rfl, fun pr G1 s1 hpr => ⟨p, r, n, qa, ts, es, tl, pt, pr, u, v, (by rw [← hpt]; rfl), N.same s1, s1 _ _ hR, htl, by omega, hptn, hpr, huv, hc, fun G2 r' tl' s2 hr' htl' hc' => ?_⟩⟩
      have a2 : Same G G2 := Same.trans s1 s2
      refine ⟨_, rfl, rfl, _, rfl, ?_⟩
      rw [show decide (V.ref r' = V.non) = false from rfl]
      refine iteF ?_
      refine ⟨_, rfl, .inl ⟨rfl, _, SqL.of (a2 _ _ hto)⟩, _, rfl, to, _, _, rfl, rfl, a2 _ _ hto, (by rw [List.length_map, sizeLine_eq]; omega), ?_⟩
      rw [ref_app]
      have g3 : ∀ b o, b ≠ to → G b = some o → (upd G2 to (.lst ((us ++ [r']).map V.ref))) b = some o := fun b o hb e => by rw [upd_ne hb]; exact a2 _ _ e
      have hrt : r' ≠ to := fun z => by rw [z, a2 _ _ hto] at hr'; cases hr'
      have hr3 : (upd G2 to (.lst ((us ++ [r']).map V.ref))) r' = some (.tup (tv tl')) := by rw [upd_ne hrt]; exact hr'
      have hco3 := g3 co _ (Ne.symm htc) hco
      refine ⟨_, rfl, .inl ⟨rfl, _, SqL.of hco3⟩, _, rfl, r', _, rfl, .inr (SqT.of hr3), fun c' hc4 => ?_⟩
      have hcn : c' ≠ co := fun z => by rw [z, hco3] at hc4; cases hc4
      have hct : c' ≠ to := fun z => by rw [z, upd_same] at hc4; cases hc4
      have s4 : Same (upd G2 to (.lst ((us ++ [r']).map V.ref))) (upd (upd G2 to (.lst ((us ++ [r']).map V.ref))) c' (.lst (tv tl'))) := same_new hc4
      refine ⟨co, _, _, rfl, rfl, s4 _ _ hco3, (by rw [List.length_map, sizeLine_eq]; omega), ?_⟩
      rw [ref_app]
      have hrc : r' ≠ co := fun z => by rw [z, a2 _ _ hco] at hr'; cases hr'
      refine ⟨_, rfl, fin _ r' c' tl' (fun b o hb1 hb2 e => ?_) ?_ htl' hc' ?_ hct hcn ?_ upd_same⟩
      · rw [upd_ne hb2]
        exact s4 _ _ (g3 b o hb1 e)
      · rw [upd_ne hrc]
        exact s4 _ _ hr3
      · rw [upd_ne hcn, upd_same]
      · rw [upd_ne htc]
        exact s4 _ _ upd_same
    refine ⟨_, pss_cons (ps_set (i := 1) scLaw.nd rfl (Or.inl rfl) (pe_fc FDs hr (pa_c (pv 0) (pa_c pe_int pa_nil))))
      (pss_cons (ps_set (i := 2) scLaw.nd rfl (Or.inl rfl) (pe_fc FNt hr (pa_c (pv 1) (pa_c pe_int pa_nil))))
      (pss_cons (ps_set (i := 3) scLaw.nd rfl (Or.inl rfl) (pe_op op_add pe_int (pe_op op_mod (pe_fc FD hr (pa_c (pv 1) (pa_c pe_int pa_nil))) pe_int)))
      (pss_cons (ps_set (i := 4) scLaw.nd rfl (Or.inl rfl) (pe_fc FT hr (pa_c (pv 1) (pa_c pe_int (pa_c (pv 2) (pa_c (pv 3) pa_nil))))))
      (pss_cons (ps_set (i := 5) scLaw.nd rfl (Or.inl rfl) (pe_lst pa_nil))
      (pss_cons (ps_set (i := 6) scLaw.nd rfl (Or.inl rfl) (pe_lst pa_nil))
      (pss_cons (ps_for PassesOwn.never rfl (pi_range1 rfl T.range (pa_c (pe_op op_add pe_int (pe_op op_mod (pe_fc FD hr (pa_c (pv 1) (pa_c pe_int pa_nil))) pe_int)) pa_nil)) (pg_name (i := 7) scLaw.nd rfl (Or.inl rfl))
        (pss_cons (ps_set (i := 8) scLaw.nd rfl (Or.inl rfl) (pe_fc FD hr (pa_c (pv 1) (pa_c (pe_op op_add pe_int (pv 7)) pa_nil))))
        (pss_cons (ps_set (i := 9) scLaw.nd rfl (Or.inl rfl) (pe_op op_mod (pv 8) (pv 3)))
        (pss_cons (ps_set (i := 10) scLaw.nd rfl (Or.inl rfl) (pe_op op_mod (pe_op op_add (pe_op op_add (pv 9) pe_int) (pe_op op_mod (pe_op op_fdiv (pv 8) pe_int) (pe_op op_sub (pv 3) pe_int))) (pv 3)))
        (pss_cons (ps_if (pt_cmpR op_eq (pe_op op_mod (pe_op op_fdiv (pv 8) pe_int) pe_int) pe_int (nomark _)) (pss_one (ps_set (i := 10) scLaw.nd rfl (Or.inl rfl) (pe_op op_add (pv 3) (pe_op op_mod (pe_op op_fdiv (pv 8) pe_int) (pe_op op_sub pe_int (pv 3)))))) pss_nil) hTR)))))
      (pss_one (ps_ret (pe_cmpR (op_eqD hr) (pe_lcL blkLw rfl (pv 5) (mono_var 5) (fun C fp s H => pg_name (i := 0) ndLw rfl (Or.inl rfl)) (fun C fp s H => pts_nil) (fun C fp s H => pe_callTy (call_list_ofSK (K := K) rfl) rfl T.list bList (pa_c (pv 0) pa_nil))) (pv 6) (nomark _)))))))))), ?_⟩
    refine ⟨_, rfl, a, ns, rfl, hS, hl, fun H1 dr ds s1 hdr hD => ?_⟩
    have sD1 : SqL K H1 dr (ds.map V.int) := SqL.of hdr
    refine ⟨_, rfl, dr, ds, rfl, sD1, hD, fun H2 p n qa ts es s2 N n2 h40 => ?_⟩
    have hdr2 := s2 _ _ hdr
    have d1 := mod_lo (n := drw ds 0) (p := 4) (by decide)
    have d2 := mod_hi (n := drw ds 0) (p := 4) (by decide)
    obtain ⟨M, hM, hM1, hM2⟩ : ∃ M : Nat, 2 + drw ds 0 % 4 = (M : Int) ∧ 2 ≤ M ∧ M ≤ 5 := ⟨(2 + drw ds 0 % 4).toNat, by omega, by omega, by omega⟩
    refine ⟨_, rfl, dr, ds, 0, rfl, SqL.of hdr2, hD, by decide, by decide, _, _, rfl, rfl, (by show (0 : Int) < 4; decide), _, _, rfl, rfl, ?_⟩
    dsimp only [gName]
    rw [hM]
    refine ⟨_, rfl, _, rfl, _, rfl, dr, ds, p, n, qa, ts, es, M, rfl, SqL.of hdr2, hD, N, by omega, by omega, h40, fun H3 r tl s3 hR htl hb hc => ?_⟩
    refine ⟨Nat.zero_le _, fun to hto => ⟨Nat.zero_le _, fun co hco => ?_⟩⟩
    have hco3 : H3 co = none := (same_new hto).none hco
    have htc : to ≠ co := fun z => by rw [← z, upd_same] at hco; cases hco
    have s5 : Same H3 (upd (upd H3 to (.lst [])) co (.lst [])) := (same_new hto).wr hco3
    have hdr5 := s5 _ _ (s3 _ _ hdr2)
    have e1 := mod_lo (n := drw ds 1) (p := 20) (by decide)
    have e2 := mod_hi (n := drw ds 1) (p := 20) (by decide)
    refine ⟨_, rfl, dr, ds, 1, rfl, SqL.of hdr5, hD, by decide, by decide, _, _, rfl, rfl, (by show (0 : Int) < 20; decide), _, _, rfl, rfl, _, rfl, by omega, by omega, for_range (lo := 0) (n := (1 + drw ds 1 % 20).toNat) (fun i σ G => ∃ (r : Addr) (tl : List (Option Nat)) (us cs : List Addr) (TL : List (List (Option Nat))) (v7 v8 v9 v10 v11 : Option V), σ = [some (.ref a), some (.ref dr), some (.ref p), some (.int (M : Int)), some (.ref r), some (.ref to), some (.ref co), v7, v8, v9, v10, v11] ∧ Same H3 G ∧ G r = some (.tup (tv tl)) ∧ tl.length = es.length ∧ CleanTo es tl es.length ∧ G to = some (.lst (us.map V.ref)) ∧ G co = some (.lst (cs.map V.ref)) ∧ Told .tup G us TL ∧ Told .lst G cs TL ∧ us.length ≤ i ∧ ∀ c ∈ cs, c ≠ to ∧ c ≠ co)
      ⟨r, tl, [], [], [], _, _, _, _, _, rfl, s5, s5 _ _ hR, htl, hc, by rw [upd_ne htc, upd_same]; rfl, by rw [upd_same]; rfl, ⟨rfl, fun j a t h => by cases h⟩, ⟨rfl, fun j a t h => by cases h⟩, Nat.le_refl _, fun c hc => by cases hc⟩ (fun k σ G hk ⟨r, tl, us, cs, TL, v7, v8, v9, v10, v11, e, SG, hR, htl, hc, gto, gco, T1, T2, hul, hcs⟩ => ?_) (fun σ G ⟨r, tl, us, cs, TL, v7, v8, v9, v10, v11, e, SG, hR, htl, hc, gto, gco, T1, T2, hul, hcs⟩ => ?_)⟩
    · subst e
      have N4 := (N.same s3).same SG
      have hul2 := T1.1
      have hcl2 := T2.1
      have hdrG := SG _ _ (s3 _ _ hdr2)
      obtain ⟨nu, hnu⟩ : ∃ nu : Nat, drw ds (200 + (0 + (k : Int))) = (nu : Int) := ⟨(drw ds (200 + (0 + (k : Int)))).toNat, by have := drw_nn hD (200 + (0 + (k : Int))); omega⟩
      refine ⟨_, rfl, _, rfl, _, _, rfl, rfl, dr, ds, _, rfl, SqL.of hdrG, hD, by omega, by omega, ?_⟩
      dsimp only [gName]
      rw [hnu]
      have hMp : (0 : Int) < (M : Int) := by omega
      have hM1p : (0 : Int) < (M : Int) - 1 := by omega
      have x1 := mod_lo (n := (nu : Int)) hMp
      have x2 := mod_hi (n := (nu : Int)) hMp
      obtain ⟨u, hu, hul3⟩ : ∃ u : Nat, (nu : Int) % (M : Int) = (u : Int) ∧ u < M := ⟨((nu : Int) % (M : Int)).toNat, by omega, by omega⟩
      refine ⟨_, rfl, _, rfl, _, _, rfl, rfl, hMp, ?_⟩
      dsimp only [gName]
      rw [hu]
      have y1 := mod_lo (n := (nu : Int) / 8) hM1p
      have y2 := mod_hi (n := (nu : Int) / 8) hM1p
      obtain ⟨v, hv, huv⟩ : ∃ v : Nat, ((u : Int) + 1 + (nu : Int) / 8 % ((M : Int) - 1)) % (M : Int) = (v : Int) ∧ u ≠ v := by
        have z1 := mod_lo (n := (u : Int) + 1 + (nu : Int) / 8 % ((M : Int) - 1)) hMp
        refine ⟨(((u : Int) + 1 + (nu : Int) / 8 % ((M : Int) - 1)) % (M : Int)).toNat, by omega, fun z => ?_⟩
        generalize (nu : Int) / 8 % ((M : Int) - 1) = g at *
        by_cases hb : (u : Int) + 1 + g < (M : Int)
        · rw [Int.emod_eq_of_lt (by omega) hb] at z
          omega
        · have e3 : ((u : Int) + 1 + g) % (M : Int) = (u : Int) + 1 + g - (M : Int) := by
            rw [← Int.sub_emod_right ((u : Int) + 1 + g) (M : Int)]
            exact Int.emod_eq_of_lt (by omega) (by omega)
          rw [e3] at z
          omega
      refine ⟨_, rfl, _, _, rfl, rfl, _, rfl, _, _, rfl, rfl, ⟨by decide, by decide⟩, _, rfl, _, _, rfl, rfl, _, _, rfl, rfl, hM1p, _, _, rfl, rfl, _, rfl, _, _, rfl, rfl, hMp, ?_⟩
      dsimp only [gName]
      rw [hv]
      have go : ∀ (D : Ends) (v : Nat), u ≠ v → (∀ σ G, (∃ (r : Addr) (tl : List (Option Nat)) (us cs : List Addr) (TL : List (List (Option Nat))) (v7 v8 v9 v10 v11 : Option V), σ = [some (.ref a), some (.ref dr), some (.ref p), some (.int (M : Int)), some (.ref r), some (.ref to), some (.ref co), v7, v8, v9, v10, v11] ∧ Same H3 G ∧ G r = some (.tup (tv tl)) ∧ tl.length = es.length ∧ CleanTo es tl es.length ∧ G to = some (.lst (us.map V.ref)) ∧ G co = some (.lst (cs.map V.ref)) ∧ Told .tup G us TL ∧ Told .lst G cs TL ∧ us.length ≤ k + 1 ∧ ∀ c ∈ cs, c ≠ to ∧ c ≠ co) → D.nx σ G) → tR D [some (.ref a), some (.ref dr), some (.ref p), some (.int (M : Int)), some (.ref r), some (.ref to), some (.ref co), some (.int (0 + (k : Int))), some (.int (nu : Int)), some (.int (u : Int)), some (.int (v : Int)), v11] G := by
        intro D v huv hDn
        refine rest D G p n qa ts es r tl to co us cs TL nu u v _ _ _ _ N4 n2 hR htl h40 hc huv gto gco htc (by omega) (by omega) fun G' r' c' tl' keep hr' htl' hc' hc4 h1 h2 h3 h4 => hDn _ _ ⟨r', tl', us ++ [r'], cs ++ [c'], TL ++ [tl'], _, _, _, _, _, rfl, fun b o e => keep b o (ne_of_none e hto) (ne_of_none e hco3) (SG _ _ e), hr', htl', hc', h3, h4, Told.add ⟨T1.1, fun j b t g1 g2 => ?_⟩ hr', Told.add ⟨T2.1, fun j b t g1 g2 => ?_⟩ hc4, by rw [List.length_append, List.length_singleton]; omega, fun c hc => ?_⟩
        · have g3 := T1.2 j b t g1 g2
          exact keep b _ (fun z => by rw [z, gto] at g3; cases g3) (fun z => by rw [z, gco] at g3; cases g3) g3
        · have g3 := T2.2 j b t g1 g2
          have g4 := hcs b (List.mem_of_getElem? g1)
          exact keep b _ g4.1 g4.2 g3
        · rcases List.mem_append.mp hc with z | z
          · exact hcs c z
          · rw [List.mem_singleton.mp z]; exact ⟨h1, h2⟩
      refine ⟨_, rfl, _, _, rfl, rfl, ⟨by decide, by decide⟩, _, _, rfl, rfl, (by show (0 : Int) < 6; decide), rfl, _, rfl, ?_⟩
      refine ite2 (fun _ => ?_) (fun _ => ?_)
      · have hp2 : (0 : Int) < 1000 - (M : Int) := by omega
        have w1 := mod_lo (n := (nu : Int) / 512) hp2
        obtain ⟨v2, hv2, hv3⟩ : ∃ v2 : Nat, (M : Int) + (nu : Int) / 512 % (1000 - (M : Int)) = (v2 : Int) ∧ M ≤ v2 := ⟨((M : Int) + (nu : Int) / 512 % (1000 - (M : Int))).toNat, by omega, by omega⟩
        refine ⟨_, rfl, _, rfl, _, _, rfl, rfl, ⟨by decide, by decide⟩, _, rfl, _, _, rfl, rfl, _, _, rfl, rfl, hp2, _, _, rfl, rfl, ?_⟩
        dsimp only [gName]
        rw [hv2]
        exact go _ v2 (by omega) fun _ _ h => h
      · exact go _ v huv fun _ _ h => h
    · subst e
      have hul2 := T1.1
      have hcl2 := T2.1
      refine ⟨_, rfl, to, us.map V.ref, rfl, SqL.of gto, (by rw [List.length_map]; omega), fun i ys σ G' => Same G G' ∧ ∃ bs : List Addr, ys = bs.map V.ref ∧ Told .lst G' bs (TL.take i) ∧ ∃ v0, σ = [v0], ⟨Same.refl _, [], rfl, ⟨rfl, fun j a t h => by cases h⟩, _, rfl⟩, fun i ys σ G' hi ⟨g1, bs, e, hT, _⟩ => ?_, fun i y ys σ G' hy ⟨g1, bs, e, hT, v0, e2⟩ => ?_, fun ys σ G' ⟨g1, bs, e, hT, _⟩ l2 G2 g2 hl2 => ?_⟩
      · subst e
        exact ⟨SqL.of (g1 _ _ gto), by rw [List.length_map, hT.1]; exact List.length_take_le _ _⟩
      · subst e e2
        have hi : i < us.length := by have := (List.getElem?_eq_some_iff.mp hy).1; rwa [List.length_map] at this
        have hiT : i < TL.length := by omega
        obtain rfl : y = V.ref us[i] := by rw [List.getElem?_map, List.getElem?_eq_getElem hi] at hy; exact (Option.some.inj hy).symm
        have gu := g1 _ _ (T1.2 i _ _ (List.getElem?_eq_getElem hi) (List.getElem?_eq_getElem hiT))
        dsimp only [gName, tTrue]
        refine iteT ⟨_, rfl, us[i], _, rfl, .inr (SqT.of gu), fun l3 G3 s3' hl3 => ⟨Same.trans g1 s3', bs ++ [l3], ref_app _ _, ?_, _, rfl⟩⟩
        rw [List.take_add_one, List.getElem?_eq_getElem hiT]
        exact (hT.same s3').add hl3
      · subst e
        rw [List.length_map, hul2, List.take_length] at hT
        have T2' := (T2.same g1).same g2
        have hT' := hT.same g2
        refine ⟨_, rfl, l2, co, _, _, rfl, rfl, .inr ⟨SqL.of hl2, SqL.of (g2 _ _ (g1 _ _ gco))⟩, by rw [List.length_map, List.length_map, hT.1, T2.1], fun j x y hx hy => ?_, q _⟩
        rw [List.getElem?_map] at hx hy
        cases hb : bs[j]? with
        | none => rw [hb] at hx; cases hx
        | some b1 =>
          cases hb2 : cs[j]? with
          | none => rw [hb2] at hy; cases hy
          | some b2 =>
            rw [hb] at hx
            rw [hb2] at hy
            cases hx
            cases hy
            have hj : j < TL.length := by rw [← T2.1]; exact (List.getElem?_eq_some_iff.mp hb2).1
            have z1 := hT'.2 j b1 _ hb (List.getElem?_eq_getElem hj)
            have z2 := T2'.2 j b2 _ hb2 (List.getElem?_eq_getElem hj)
            refine .inr ⟨b1, b2, _, _, rfl, rfl, .inr ⟨SqL.of z1, SqL.of z2⟩, rfl, fun i x y h1 h2 => ?_⟩
            rw [h1] at h2
            cases h2
            obtain ⟨o, _, rfl⟩ := tv_inv h1
            exact .inl ⟨rfl, by cases o <;> trivial⟩
end
end My
set_option Elab.async false
set_option linter.all false
set_option maxRecDepth 100000
set_option maxHeartbeats 4000000
namespace My
open PySem L2
theorem all_mk {l : PySem.W.OpenLaw} {w : World} {K : PySem.W.Frag} {h : Heap} {mg : Str → Option Value} {fa f1 f2 f3 f4 f5 f6 f7 f8 f9 f10 f11 f12 f13 f14 f15 f16 : Addr} (X : K.In h) (G : h.Ns mainGlobals mg) (hfa : mg "law" = some (.ref fa))
    {od1 an1 od2 an2 od3 an3 od4 an4 od5 an5 od6 an6 od7 an7 od8 an8 od9 an9 od10 an10 od11 an11 od12 an12 od13 an13 od14 an14 od15 an15 od16 an16 : Option Addr} {sl1 sl2 sl3 sl4 sl5 sl6 sl7 sl8 sl9 sl10 sl11 sl12 sl13 sl14 sl15 sl16 : Array (Option Value)} {oc1 kV1 dc1 pm1 cd1 ct1 oc2 kV2 dc2 pm2 cd2 ct2 oc3 kV3 dc3 pm3 cd3 ct3 oc4 kV4 dc4 pm4 cd4 ct4 oc5 kV5 dc5 pm5 cd5 ct5 oc6 kV6 dc6 pm6 cd6 ct6 oc7 kV7 dc7 pm7 cd7 ct7 oc8 kV8 dc8 pm8 cd8 ct8 oc9 kV9 dc9 pm9 cd9 ct9 oc10 kV10 dc10 pm10 cd10 ct10 oc11 kV11 dc11 pm11 cd11 ct11 oc12 kV12 dc12 pm12 cd12 ct12 oc13 kV13 dc13 pm13 cd13 ct13 oc14 kV14 dc14 pm14 cd14 ct14 oc15 kV15 dc15 pm15 cd15 ct15 oc16 kV16 dc16 pm16 cd16 ct16 : Value}
    (a1 : PySem.W.nsIn K mainGlobals "across" = some (some (.ref f1))) (l1 : K.lookup f1 = some ⟨oc1, od1, .func (PySem.W.fnOf "across" "across" (defArgs sAc) (defBody sAc) (defScope sAc) .none kV1 dc1 pm1 an1 cd1 ct1), sl1⟩) (c1 : PySem.W.codeIn K cd1 "across" = true) (k1 : PySem.W.keepIn K (.ref f1) = true)
    (a2 : PySem.W.nsIn K mainGlobals "two_tinted" = some (some (.ref f2))) (l2 : K.lookup f2 = some ⟨oc2, od2, .func (PySem.W.fnOf "two_tinted" "two_tinted" (defArgs sTt) (defBody sTt) (defScope sTt) .none kV2 dc2 pm2 an2 cd2 ct2), sl2⟩) (c2 : PySem.W.codeIn K cd2 "two_tinted" = true) (k2 : PySem.W.keepIn K (.ref f2) = true)
    (a3 : PySem.W.nsIn K mainGlobals "chain" = some (some (.ref f3))) (l3 : K.lookup f3 = some ⟨oc3, od3, .func (PySem.W.fnOf "chain" "chain" (defArgs sCh) (defBody sCh) (defScope sCh) .none kV3 dc3 pm3 an3 cd3 ct3), sl3⟩) (c3 : PySem.W.codeIn K cd3 "chain" = true) (k3 : PySem.W.keepIn K (.ref f3) = true)
    (a4 : PySem.W.nsIn K mainGlobals "turned" = some (some (.ref f4))) (l4 : K.lookup f4 = some ⟨oc4, od4, .func (PySem.W.fnOf "turned" "turned" (defArgs sTu) (defBody sTu) (defScope sTu) .none kV4 dc4 pm4 an4 cd4 ct4), sl4⟩) (c4 : PySem.W.codeIn K cd4 "turned" = true) (k4 : PySem.W.keepIn K (.ref f4) = true)
    (a5 : PySem.W.nsIn K mainGlobals "_law_mixed" = some (some (.ref f5))) (l5 : K.lookup f5 = some ⟨oc5, od5, .func (PySem.W.fnOf "_law_mixed" "_law_mixed" (defArgs sMx) (defBody sMx) (defScope sMx) .none kV5 dc5 pm5 an5 cd5 ct5), sl5⟩) (c5 : PySem.W.codeIn K cd5 "_law_mixed" = true) (k5 : PySem.W.keepIn K (.ref f5) = true)
    (a6 : PySem.W.nsIn K mainGlobals "_law_draws" = some (some (.ref f6))) (l6 : K.lookup f6 = some ⟨oc6, od6, .func (PySem.W.fnOf "_law_draws" "_law_draws" (defArgs sDs) (defBody sDs) (defScope sDs) .none kV6 dc6 pm6 an6 cd6 ct6), sl6⟩) (c6 : PySem.W.codeIn K cd6 "_law_draws" = true) (k6 : PySem.W.keepIn K (.ref f6) = true)
    (a7 : PySem.W.nsIn K mainGlobals "_law_draw" = some (some (.ref f7))) (l7 : K.lookup f7 = some ⟨oc7, od7, .func (PySem.W.fnOf "_law_draw" "_law_draw" (defArgs sDraw) (defBody sDraw) (defScope sDraw) .none kV7 dc7 pm7 an7 cd7 ct7), sl7⟩) (c7 : PySem.W.codeIn K cd7 "_law_draw" = true) (k7 : PySem.W.keepIn K (.ref f7) = true)
    (a8 : PySem.W.nsIn K mainGlobals "_law_tie" = some (some (.ref f8))) (l8 : K.lookup f8 = some ⟨oc8, od8, .func (PySem.W.fnOf "_law_tie" "_law_tie" (defArgs sTie) (defBody sTie) (defScope sTie) .none kV8 dc8 pm8 an8 cd8 ct8), sl8⟩) (c8 : PySem.W.codeIn K cd8 "_law_tie" = true) (k8 : PySem.W.keepIn K (.ref f8) = true)
    (a9 : PySem.W.nsIn K mainGlobals "_law_net" = some (some (.ref f9))) (l9 : K.lookup f9 = some ⟨oc9, od9, .func (PySem.W.fnOf "_law_net" "_law_net" (defArgs sNet) (defBody sNet) (defScope sNet) .none kV9 dc9 pm9 an9 cd9 ct9), sl9⟩) (c9 : PySem.W.codeIn K cd9 "_law_net" = true) (k9 : PySem.W.keepIn K (.ref f9) = true)
    (a10 : PySem.W.nsIn K mainGlobals "_law_tints" = some (some (.ref f10))) (l10 : K.lookup f10 = some ⟨oc10, od10, .func (PySem.W.fnOf "_law_tints" "_law_tints" (defArgs sTs) (defBody sTs) (defScope sTs) .none kV10 dc10 pm10 an10 cd10 ct10), sl10⟩) (c10 : PySem.W.codeIn K cd10 "_law_tints" = true) (k10 : PySem.W.keepIn K (.ref f10) = true)
    (a11 : PySem.W.nsIn K mainGlobals "_law_is_tinting" = some (some (.ref f11))) (l11 : K.lookup f11 = some ⟨oc11, od11, .func (PySem.W.fnOf "_law_is_tinting" "_law_is_tinting" (defArgs sIt) (defBody sIt) (defScope sIt) .none kV11 dc11 pm11 an11 cd11 ct11), sl11⟩) (c11 : PySem.W.codeIn K cd11 "_law_is_tinting" = true) (k11 : PySem.W.keepIn K (.ref f11) = true)
    (a12 : PySem.W.nsIn K mainGlobals "_law_come_to" = some (some (.ref f12))) (l12 : K.lookup f12 = some ⟨oc12, od12, .func (PySem.W.fnOf "_law_come_to" "_law_come_to" (defArgs sCt) (defBody sCt) (defScope sCt) .none kV12 dc12 pm12 an12 cd12 ct12), sl12⟩) (c12 : PySem.W.codeIn K cd12 "_law_come_to" = true) (k12 : PySem.W.keepIn K (.ref f12) = true)
    (a13 : PySem.W.nsIn K mainGlobals "_law_taken" = some (some (.ref f13))) (l13 : K.lookup f13 = some ⟨oc13, od13, .func (PySem.W.fnOf "_law_taken" "_law_taken" (defArgs sTk) (defBody sTk) (defScope sTk) .none kV13 dc13 pm13 an13 cd13 ct13), sl13⟩) (c13 : PySem.W.codeIn K cd13 "_law_taken" = true) (k13 : PySem.W.keepIn K (.ref f13) = true)
    (a14 : PySem.W.nsIn K mainGlobals "_law_free_as_due" = some (some (.ref f14))) (l14 : K.lookup f14 = some ⟨oc14, od14, .func (PySem.W.fnOf "_law_free_as_due" "_law_free_as_due" (defArgs sFa) (defBody sFa) (defScope sFa) .none kV14 dc14 pm14 an14 cd14 ct14), sl14⟩) (c14 : PySem.W.codeIn K cd14 "_law_free_as_due" = true) (k14 : PySem.W.keepIn K (.ref f14) = true)
    (a15 : PySem.W.nsIn K mainGlobals "_law_turn" = some (some (.ref f15))) (l15 : K.lookup f15 = some ⟨oc15, od15, .func (PySem.W.fnOf "_law_turn" "_law_turn" (defArgs sTn) (defBody sTn) (defScope sTn) .none kV15 dc15 pm15 an15 cd15 ct15), sl15⟩) (c15 : PySem.W.codeIn K cd15 "_law_turn" = true) (k15 : PySem.W.keepIn K (.ref f15) = true)
    (a16 : PySem.W.nsIn K mainGlobals "law" = some (some (.ref f16))) (l16 : K.lookup f16 = some ⟨oc16, od16, .func (PySem.W.fnOf "law" "law" (defArgs sLaw) (defBody sLaw) (defScope sLaw) .none kV16 dc16 pm16 an16 cd16 ct16), sl16⟩) (c16 : PySem.W.codeIn K cd16 "law" = true) (k16 : PySem.W.keepIn K (.ref f16) = true)
    (z1 : PySem.W.nsIn K mainGlobals "len" = some none)
    (z2 : PySem.W.nsIn K mainGlobals "isinstance" = some none)
    (z3 : PySem.W.nsIn K mainGlobals "int" = some none)
    (z4 : PySem.W.nsIn K mainGlobals "bool" = some none)
    (z5 : PySem.W.nsIn K mainGlobals "tuple" = some none)
    (z6 : PySem.W.nsIn K mainGlobals "list" = some none)
    (z7 : PySem.W.nsIn K mainGlobals "range" = some none)
    (z8 : PySem.W.nsIn K mainGlobals "max" = some none)
    (z9 : PySem.W.nsIn K mainGlobals "min" = some none)
    (z10 : PySem.W.nsIn K mainGlobals "zip" = some none)
    (z11 : PySem.W.nsIn K mainGlobals "dict" = some none)
    (z12 : PySem.W.nsIn K mainGlobals "enumerate" = some none)
    (z13 : PySem.W.nsIn K mainGlobals "sorted" = some none)
    (z14 : PySem.W.nsIn K mainGlobals "set" = some none)
    : ∃ fd : FuncData, (∀ (s : Shared) (v : Value), BindsTo s fd ⟨[v], []⟩ [("_law_script", v)]) ∧ ∀ base : Heap, K.In base → base.Ns mainGlobals mg → FnOk l.prog w K mg base CX0 5 fa fd ["_law_script"] (spLaw K) := by
  have e := hfa.symm.trans (PySem.W.mg_of X G a16)
  cases e
  have F1 := fun_mk (st := sAc) l1 c1 k1
  have b1 := F1.binds (ps := ["net", "tie", "point"]) fun _ _ _ _ _ _ us hl => match us, hl with | [_, _, _], _ => rfl
  have g1 := PySem.W.mg_of X G a1
  have F2 := fun_mk (st := sTt) l2 c2 k2
  have b2 := F2.binds (ps := ["net", "tints", "one", "other"]) fun _ _ _ _ _ _ us hl => match us, hl with | [_, _, _, _], _ => rfl
  have g2 := PySem.W.mg_of X G a2
  have F3 := fun_mk (st := sCh) l3 c3 k3
  have b3 := F3.binds (ps := ["net", "tints", "point", "one", "other"]) fun _ _ _ _ _ _ us hl => match us, hl with | [_, _, _, _, _], _ => rfl
  have g3 := PySem.W.mg_of X G a3
  have F4 := fun_mk (st := sTu) l4 c4 k4
  have b4 := F4.binds (ps := ["net", "tints", "point", "one", "other"]) fun _ _ _ _ _ _ us hl => match us, hl with | [_, _, _, _, _], _ => rfl
  have g4 := PySem.W.mg_of X G a4
  have F5 := fun_mk (st := sMx) l5 c5 k5
  have b5 := F5.binds (ps := ["_law_cell", "_law_k"]) fun _ _ _ _ _ _ us hl => match us, hl with | [_, _], _ => rfl
  have g5 := PySem.W.mg_of X G a5
  have F6 := fun_mk (st := sDs) l6 c6 k6
  have b6 := F6.binds (ps := ["_law_script", "_law_many"]) fun _ _ _ _ _ _ us hl => match us, hl with | [_, _], _ => rfl
  have g6 := PySem.W.mg_of X G a6
  have F7 := fun_mk (st := sDraw) l7 c7 k7
  have b7 := F7.binds (ps := ["_law_draws_here", "_law_k"]) fun _ _ _ _ _ _ us hl => match us, hl with | [_, _], _ => rfl
  have g7 := PySem.W.mg_of X G a7
  have F8 := fun_mk (st := sTie) l8 c8 k8
  have b8 := F8.binds (ps := ["_law_number", "_law_k", "_law_points", "_law_kind"]) fun _ _ _ _ _ _ us hl => match us, hl with | [_, _, _, _], _ => rfl
  have g8 := PySem.W.mg_of X G a8
  have F9 := fun_mk (st := sNet) l9 c9 k9
  have b9 := F9.binds (ps := ["_law_draws_here", "_law_at"]) fun _ _ _ _ _ _ us hl => match us, hl with | [_, _], _ => rfl
  have g9 := PySem.W.mg_of X G a9
  have F10 := fun_mk (st := sTs) l10 c10 k10
  have b10 := F10.binds (ps := ["_law_draws_here", "_law_at", "_law_net_here", "_law_many"]) fun _ _ _ _ _ _ us hl => match us, hl with | [_, _, _, _], _ => rfl
  have g10 := PySem.W.mg_of X G a10
  have F11 := fun_mk (st := sIt) l11 c11 k11
  have b11 := F11.binds (ps := ["_law_found", "_law_many"]) fun _ _ _ _ _ _ us hl => match us, hl with | [_, _], _ => rfl
  have g11 := PySem.W.mg_of X G a11
  have F12 := fun_mk (st := sCt) l12 c12 k12
  have b12 := F12.binds (ps := ["_law_net_here", "_law_tints_here", "_law_point", "_law_pair"]) fun _ _ _ _ _ _ us hl => match us, hl with | [_, _, _, _], _ => rfl
  have g12 := PySem.W.mg_of X G a12
  have F13 := fun_mk (st := sTk) l13 c13 k13
  have b13 := F13.binds (ps := ["_law_net_here", "_law_tints_here"]) fun _ _ _ _ _ _ us hl => match us, hl with | [_, _], _ => rfl
  have g13 := PySem.W.mg_of X G a13
  have F14 := fun_mk (st := sFa) l14 c14 k14
  have b14 := F14.binds (ps := ["_law_net_here", "_law_met", "_law_taken_here", "_law_behind", "_law_pair"]) fun _ _ _ _ _ _ us hl => match us, hl with | [_, _, _, _, _], _ => rfl
  have g14 := PySem.W.mg_of X G a14
  have F15 := fun_mk (st := sTn) l15 c15 k15
  have b15 := F15.binds (ps := ["_law_net_here", "_law_tints_here", "_law_point", "_law_pair"]) fun _ _ _ _ _ _ us hl => match us, hl with | [_, _, _, _], _ => rfl
  have g15 := PySem.W.mg_of X G a15
  have F16 := fun_mk (st := sLaw) l16 c16 k16
  have T : Bi mg := ⟨PySem.W.mg_none_of X G z1, PySem.W.mg_none_of X G z2, PySem.W.mg_none_of X G z3, PySem.W.mg_none_of X G z4, PySem.W.mg_none_of X G z5, PySem.W.mg_none_of X G z6, PySem.W.mg_none_of X G z7, PySem.W.mg_none_of X G z8, PySem.W.mg_none_of X G z9, PySem.W.mg_none_of X G z10, PySem.W.mg_none_of X G z11⟩
  refine ⟨PySem.W.fnOf "law" "law" (defArgs sLaw) (defBody sLaw) (defScope sLaw) .none kV16 dc16 pm16 an16 cd16 ct16, fun s v => .of_eq rfl, fun base _ _ => ?_⟩
  have E1 : FnE l.prog w K mg base "across" ["net", "tie", "point"] 1 spAc := ⟨⟨f1, _, ok_ac F1, g1, k1, b1⟩⟩
  have E2 : FnE l.prog w K mg base "two_tinted" ["net", "tints", "one", "other"] 1 spTt := ⟨⟨f2, _, ok_tt F2 T (PySem.W.mg_none_of X G z12), g2, k2, b2⟩⟩
  have E3 : FnE l.prog w K mg base "chain" ["net", "tints", "point", "one", "other"] 2 spCh := ⟨⟨f3, _, ok_ch F3 T (PySem.W.mg_none_of X G z13) E2 E1, g3, k3, b3⟩⟩
  have E4 : FnE l.prog w K mg base "turned" ["net", "tints", "point", "one", "other"] 3 spTu := ⟨⟨f4, _, ok_tu F4 T E3, g4, k4, b4⟩⟩
  have E5 : FnE l.prog w K mg base "_law_mixed" ["_law_cell", "_law_k"] 1 spMx := ⟨⟨f5, _, ok_mx F5 T, g5, k5, b5⟩⟩
  have E6 : FnE l.prog w K mg base "_law_draws" ["_law_script", "_law_many"] 2 (spDs K) := ⟨⟨f6, _, ok_ds F6 T E5, g6, k6, b6⟩⟩
  have E7 : FnE l.prog w K mg base "_law_draw" ["_law_draws_here", "_law_k"] 1 (spDraw K) := ⟨⟨f7, _, ok_draw F7 T, g7, k7, b7⟩⟩
  have E8 : FnE l.prog w K mg base "_law_tie" ["_law_number", "_law_k", "_law_points", "_law_kind"] 1 spTie := ⟨⟨f8, _, ok_tie F8, g8, k8, b8⟩⟩
  have E9 : FnE l.prog w K mg base "_law_net" ["_law_draws_here", "_law_at"] 2 (spNet K) := ⟨⟨f9, _, ok_net F9 T E7 E8, g9, k9, b9⟩⟩
  have E10 : FnE l.prog w K mg base "_law_tints" ["_law_draws_here", "_law_at", "_law_net_here", "_law_many"] 2 (spTs K) := ⟨⟨f10, _, ok_ts F10 T E7, g10, k10, b10⟩⟩
  have E11 : FnE l.prog w K mg base "_law_is_tinting" ["_law_found", "_law_many"] 1 spIt := ⟨⟨f11, _, ok_it F11 T, g11, k11, b11⟩⟩
  have E12 : FnE l.prog w K mg base "_law_come_to" ["_law_net_here", "_law_tints_here", "_law_point", "_law_pair"] 1 spCt := ⟨⟨f12, _, ok_ct F12 T, g12, k12, b12⟩⟩
  have E13 : FnE l.prog w K mg base "_law_taken" ["_law_net_here", "_law_tints_here"] 1 spTk := ⟨⟨f13, _, ok_tk F13 T, g13, k13, b13⟩⟩
  have E14 : FnE l.prog w K mg base "_law_free_as_due" ["_law_net_here", "_law_met", "_law_taken_here", "_law_behind", "_law_pair"] 1 spFa := ⟨⟨f14, _, ok_fa F14 T (PySem.W.mg_none_of X G z13) (PySem.W.mg_none_of X G z14), g14, k14, b14⟩⟩
  have E15 : FnE l.prog w K mg base "_law_turn" ["_law_net_here", "_law_tints_here", "_law_point", "_law_pair"] 4 spTn := ⟨⟨f15, _, ok_tn F15 T E4 (E11.mono (by decide)) (E12.mono (by decide)) (E13.mono (by decide)) (E14.mono (by decide)), g15, k15, b15⟩⟩
  exact ok_law F16 T (E6.mono (by decide)) (E7.mono (by decide)) (E9.mono (by decide)) (E10.mono (by decide)) E15
theorem walk {l : PySem.W.OpenLaw} {q : Program} {loose : List Str} {XP : (Str → Option Value) → Heap → Prop} {YP : World → Heap → Prop} {d : DefRec} {K : Params → PySem.W.Frag} (hn : l.most = some 63) (hdf : d.params.defaults = [])
    (hY : ∀ (w : World) (h : Heap), YP w h → (K w.params).In h)
    (F : ∀ (w : World) (mg : Str → Option Value) (fa : Addr) (h : Heap), (K w.params).In h → h.Ns mainGlobals mg → mg d.name = some (.ref fa) →
      ∃ fd : FuncData, (∀ (s : Shared) (u : Value), BindsTo s fd ⟨[u], []⟩ [("_law_script", u)]) ∧ ∀ base : Heap, (K w.params).In base → base.Ns mainGlobals mg → FnOk l.prog w (K w.params) mg base CX0 5 fa fd ["_law_script"] (spLaw (K w.params))) :
    PySem.W.WalkO q loose XP YP l.row.toRowW d [] (fun f vs => PySem.call f vs) :=
  L2.walk_of (n := 63) (k := 5) (x := "_law_script") (CX := fun _ => CX0) (sp := fun w => spLaw (K w.params)) hn (by decide) hdf ⟨rfl, by decide, by decide⟩ hY F (fun _ _ a ns hl _ hS => ⟨a, ns, rfl, hS, hl, fun _ => rfl⟩) fun _ _ _ _ _ z => z
end My
set_option Elab.async false
open PySem PySem.W PyProof.Rows
set_option maxRecDepth 100000 in
set_option maxHeartbeats 0 in
theorem PySem.Challenge.cw_tintties_k13_whole_turned_holds : PySem.Challenge.rw_tintties_k13_whole_turned.Holds := by
  w_on; o_law; k_head; (case hw => w_witness2)
  k_fill
  refine My.walk (l := PySem.Challenge.rw_tintties_k13_whole_turned) rfl rfl (fun w h Y => PySem.W.kIn_of Y) ?F
  case F =>
    intro w mg fa h KX G hmg
    refine' My.all_mk KX G hmg ?a1 ?l1 ?c1 ?k1 ?a2 ?l2 ?c2 ?k2 ?a3 ?l3 ?c3 ?k3 ?a4 ?l4 ?c4 ?k4 ?a5 ?l5 ?c5 ?k5 ?a6 ?l6 ?c6 ?k6 ?a7 ?l7 ?c7 ?k7 ?a8 ?l8 ?c8 ?k8 ?a9 ?l9 ?c9 ?k9 ?a10 ?l10 ?c10 ?k10 ?a11 ?l11 ?c11 ?k11 ?a12 ?l12 ?c12 ?k12 ?a13 ?l13 ?c13 ?k13 ?a14 ?l14 ?c14 ?k14 ?a15 ?l15 ?c15 ?k15 ?a16 ?l16 ?c16 ?k16 ?z1 ?z2 ?z3 ?z4 ?z5 ?z6 ?z7 ?z8 ?z9 ?z10 ?z11 ?z12 ?z13 ?z14
    (case a1 => k_is); (case l1 => k_is); (case c1 => k_is); (case k1 => k_is)
    (case a2 => k_is); (case l2 => k_is); (case c2 => k_is); (case k2 => k_is)
    (case a3 => k_is); (case l3 => k_is); (case c3 => k_is); (case k3 => k_is)
    (case a4 => k_is); (case l4 => k_is); (case c4 => k_is); (case k4 => k_is)
    (case a5 => k_is); (case l5 => k_is); (case c5 => k_is); (case k5 => k_is)
    (case a6 => k_is); (case l6 => k_is); (case c6 => k_is); (case k6 => k_is)
    (case a7 => k_is); (case l7 => k_is); (case c7 => k_is); (case k7 => k_is)
    (case a8 => k_is); (case l8 => k_is); (case c8 => k_is); (case k8 => k_is)
    (case a9 => k_is); (case l9 => k_is); (case c9 => k_is); (case k9 => k_is)
    (case a10 => k_is); (case l10 => k_is); (case c10 => k_is); (case k10 => k_is)
    (case a11 => k_is); (case l11 => k_is); (case c11 => k_is); (case k11 => k_is)
    (case a12 => k_is); (case l12 => k_is); (case c12 => k_is); (case k12 => k_is)
    (case a13 => k_is); (case l13 => k_is); (case c13 => k_is); (case k13 => k_is)
    (case a14 => k_is); (case l14 => k_is); (case c14 => k_is); (case k14 => k_is)
    (case a15 => k_is); (case l15 => k_is); (case c15 => k_is); (case k15 => k_is)
    (case a16 => k_is); (case l16 => k_is); (case c16 => k_is); (case k16 => k_is)
    (case z1 => k_is); (case z2 => k_is); (case z3 => k_is); (case z4 => k_is)
    (case z5 => k_is); (case z6 => k_is); (case z7 => k_is); (case z8 => k_is)
    (case z9 => k_is); (case z10 => k_is); (case z11 => k_is); (case z12 => k_is)
    (case z13 => k_is); (case z14 => k_is)
#print axioms PySem.Challenge.cw_tintties_k13_whole_turned_holds
