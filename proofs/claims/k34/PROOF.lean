import PyProof.Rows.All
import Wide.All
import OpenK.AllK
import Wide.FinOn
import Lean
import PyProof.EqAt
import PyProof.EqKinds
import PyProof.TupleCall
import PySem.SetTable
import PySem.SetOps
import PyProof.Rows.SetFrom
import PyProof.NeKinds
import PyProof.Rows.StrInSeq3
import PyProof.AttrMissHeap
import PyProof.Rows.SeqMore2
import PySem.Challenge.RW_tintties_k34_whole_fans_put
set_option Elab.async false
set_option linter.all false
set_option maxRecDepth 100000
namespace L2
open PySem PySem.Spec PyProof.Rows
abbrev Key := Sum Int Str
def keyIs : Key → Value → Bool
  | .inl k, v => Value.isInt k v
  | .inr x, v => Value.isStrOf x v
def keyH (w : World) : Key → Int
  | .inl k => hashInt k
  | .inr x => hashStr w x
theorem keyIs_shape : ∀ {k : Key} {v : Value}, keyIs k v = true → (∃ i t, k = Sum.inl i ∧ v = Value.int i t) ∨ (∃ x t, k = Sum.inr x ∧ v = Value.str x t)
  | .inl i, v, h => by
    obtain ⟨t, e⟩ := Value.isInt_shape (k := i) (v := v) h
    exact .inl ⟨i, t, rfl, e⟩
  | .inr x, v, h => by
    obtain ⟨t, e⟩ := Value.isStrOf_shape (x := x) (v := v) h
    exact .inr ⟨x, t, rfl, e⟩
theorem keyIs_int (i : Int) (t : Tok) : keyIs (.inl i) (.int i t) = true := by simp [keyIs, Value.isInt]
theorem keyIs_str (x : Str) (t : Tok) : keyIs (.inr x) (.str x t) = true := by simp [keyIs, Value.isStrOf]
theorem key_ll (a b : Int) : decide ((Sum.inl a : Key) = Sum.inl b) = (a == b) := by
  by_cases e : a = b
  · subst e; simp
  · have h : ¬ (Sum.inl a : Key) = Sum.inl b := fun q => e (Sum.inl.inj q)
    rw [decide_eq_false h]
    exact (beq_eq_false_iff_ne.mpr e).symm
theorem key_rr (a b : Str) : decide ((Sum.inr a : Key) = Sum.inr b) = decide (a = b) := by
  by_cases e : a = b
  · subst e; simp
  · have h : ¬ (Sum.inr a : Key) = Sum.inr b := fun q => e (Sum.inr.inj q)
    rw [decide_eq_false h, decide_eq_false e]
theorem key_lr (a : Int) (b : Str) : decide ((Sum.inl a : Key) = Sum.inr b) = false := decide_eq_false (fun q => nomatch q)
theorem key_rl (a : Str) (b : Int) : decide ((Sum.inr a : Key) = Sum.inl b) = false := decide_eq_false (fun q => nomatch q)
def mixKind (prog : Program) (w : World) : PySem.KeyKind prog w Key where
  is := keyIs
  hash := keyH w
  inj := fun v a b ha hb => by
    rcases keyIs_shape ha with ⟨i, t, rfl, rfl⟩ | ⟨x, t, rfl, rfl⟩
    · rcases keyIs_shape hb with ⟨j, u, rfl, e⟩ | ⟨y, u, rfl, e⟩
      · injection e with e1 _; rw [e1]
      · exact nomatch e
    · rcases keyIs_shape hb with ⟨j, u, rfl, e⟩ | ⟨y, u, rfl, e⟩
      · exact nomatch e
      · injection e with e1 _; rw [e1]
  byValue := fun k v h => by
    rcases keyIs_shape h with ⟨i, t, rfl, rfl⟩ | ⟨x, t, rfl, rfl⟩ <;> rfl
  pyHash := fun hv h => by
    rcases keyIs_shape hv with ⟨i, t, rfl, rfl⟩ | ⟨x, t, rfl, rfl⟩
    · exact wpAny_pyHash_int h
    · exact wpAny_pyHash_str h
  eqBool := fun hu hv h => by
    rcases keyIs_shape hu with ⟨i, t, rfl, rfl⟩ | ⟨x, t, rfl, rfl⟩
    · rcases keyIs_shape hv with ⟨j, u, rfl, rfl⟩ | ⟨y, u, rfl, rfl⟩
      · rw [key_ll] at h; exact wpAny_eqBool_int h
      · rw [key_lr] at h; exact SeqAt.EqAt.int_str i t y u _ _ _ _ h
    · rcases keyIs_shape hv with ⟨j, u, rfl, rfl⟩ | ⟨y, u, rfl, rfl⟩
      · rw [key_rl] at h; exact SeqAt.EqAt.str_int x t j u _ _ _ _ h
      · rw [key_rr] at h; exact wpAny_eqBool_str h
  «strs» := fun k x t v h => by
    rcases keyIs_shape h with ⟨i, u, rfl, e⟩ | ⟨y, u, rfl, e⟩
    · exact nomatch e
    · injection e with e1 _
      subst e1
      cases v <;> rfl
theorem mixKind_int (prog : Program) (w : World) (i : Int) (t : Tok) : (mixKind prog w).is (.inl i) (.int i t) = true := keyIs_int i t
theorem mixKind_str (prog : Program) (w : World) (x : Str) (t : Tok) : (mixKind prog w).is (.inr x) (.str x t) = true := keyIs_str x t
end L2
namespace L2
open PySem PySem.Spec PyProof.Rows
inductive V where
  | non | bl (b : Bool) | int (i : Int) | str (x : Str) | byt (b : Array UInt8) | flt (b : UInt64) | ref (a : Addr) | ty (n : String)
  deriving DecidableEq
def RelV : V → Value → Prop
  | .non, u => u = Value.none
  | .bl b, u => u = Value.bool b
  | .int i, u => ∃ t, u = Value.int i t
  | .str x, u => ∃ t, u = Value.str x t
  | .byt b, u => ∃ t, u = Value.bytes b t
  | .flt b, u => ∃ t, u = Value.float b t
  | .ref a, u => u = Value.ref a
  | .ty n, u => u = Value.type n
abbrev Vals : List V → List Value → Prop := Paired RelV
theorem Vals.length {xs : List V} {us : List Value} (r : Vals xs us) : xs.length = us.length := Paired.length r
theorem Vals.get : ∀ {xs : List V} {us : List Value} {i : Nat} {x : V}, Vals xs us → xs[i]? = some x → ∃ u, us[i]? = some u ∧ RelV x u
  | _, _, _, _, .nil, e => by simp at e
  | _, _, 0, _, .cons r _, e => by simp at e; subst e; exact ⟨_, rfl, r⟩
  | _, _, i + 1, x, .cons _ t, e => by
    obtain ⟨u, h1, h2⟩ := Vals.get (i := i) (x := x) t (by simpa using e)
    exact ⟨u, by simpa using h1, h2⟩
theorem Vals.set {x : V} {u : Value} (r : RelV x u) : ∀ {xs : List V} {us : List Value} (i : Nat), Vals xs us → Vals (xs.set i x) (us.set i u)
  | _, _, _, .nil => .nil
  | _, _, 0, .cons _ t => .cons r t
  | _, _, i + 1, .cons q t => .cons q (Vals.set r i t)
theorem Vals.append : ∀ {xs ys : List V} {us ws : List Value}, Vals xs us → Vals ys ws → Vals (xs ++ ys) (us ++ ws)
  | _, _, _, _, .nil, s => s
  | _, _, _, _, .cons r t, s => .cons r (Vals.append t s)
theorem Vals.take : ∀ {xs : List V} {us : List Value} (n : Nat), Vals xs us → Vals (xs.take n) (us.take n)
  | _, _, 0, _ => .nil
  | _, _, _ + 1, .nil => .nil
  | _, _, n + 1, .cons r t => .cons r (Vals.take n t)
theorem Vals.drop : ∀ {xs : List V} {us : List Value} (n : Nat), Vals xs us → Vals (xs.drop n) (us.drop n)
  | _, _, 0, r => r
  | _, _, _ + 1, .nil => .nil
  | _, _, n + 1, .cons _ t => Vals.drop n t
def RelO : Option V → Option Value → Prop
  | some v, some u => RelV v u
  | none, none => True
  | _, _ => False
def KV {κ : Type} : List (κ × V) → List (κ × Value) → Prop := Paired fun (p : κ × V) (q : κ × Value) => p.1 = q.1 ∧ RelV p.2 q.2
def kV : Key → V
  | .inl i => .int i
  | .inr x => .str x
inductive HO where
  | lst (xs : List V)
  | tup (xs : List V)
  | dK (kvs : List (Key × V)) | dT (kvs : List (List Key × V))
  | set (S : Int → Bool) (n : Nat)
  | ins (C dx : Addr) (fs : List (Str × V))
  | own (x : Addr)
  | xd (fs : List (Str × V))
  | met (f x : Addr)
  | rng (lo hi : Int)
  | frz (o : Obj) (u : HO)
  | tbl (ps : Array Value)
  | ext (φ : Heap → Prop)
abbrev Hp := Addr → Option HO
def upd (H : Hp) (a : Addr) (o : HO) : Hp := fun b => if b = a then some o else H b
theorem upd_same {H : Hp} {a : Addr} {o : HO} : upd H a o a = some o := by unfold upd; rw [if_pos rfl]
theorem upd_ne {H : Hp} {a b : Addr} {o : HO} (h : b ≠ a) : upd H a o b = H b := by unfold upd; rw [if_neg h]
theorem ne_of {H : Hp} {a b : Addr} {o u : HO} (h : H a = some o) (h' : H b = some u) (d : o ≠ u) : a ≠ b := by
  intro e; subst e; rw [h] at h'; exact d (Option.some.inj h')
theorem ne_of_none {H : Hp} {a b : Addr} {o : HO} (h : H a = some o) (h' : H b = none) : a ≠ b := by
  intro e; subst e; rw [h] at h'; cases h'
section
variable (P : Program) (w : World)
def ObjOk (H : Hp) (h : Heap) (a : Addr) : HO → Prop
  | .lst xs => xs.length ≤ sizeLine ∧ ∃ (its : List Value) (n : Nat), Vals xs its ∧ h.get? a = some { cls := .type "list", data := .seq its.toArray n }
  | .tup xs => xs.length ≤ sizeLine ∧ ∃ its : List Value, Vals xs its ∧ IsTup h a its.toArray
  | .dK kvs => kvs.length ≤ sizeLine ∧ (a == sysModules) = false ∧ ∃ vs, KV kvs vs ∧ h.DictOf (mixKind P w) a vs
  | .dT kvs => kvs.length ≤ sizeLine ∧ (a == sysModules) = false ∧ ∃ xs : List (List Key × Addr × Value),
      Paired (fun (p : List Key × V) (q : List Key × Addr × Value) => p.1 = q.1 ∧ H q.2.1 = some (.tup (p.1.map kV)) ∧ RelV p.2 q.2.2) kvs xs ∧
      ∃ o es ep, h.get? a = some o ∧ o.ExactDict ∧ o.data = .dict es ep ∧ es.toList = xs.map (entryOfKey (tupleKind (mixKind P w))) ∧ (xs.map (·.1)).Nodup
  | .set S n => h.SetOf (intKind P w) a S n
  | .ins C dx fs => H dx = some (.own a) ∧ fs.length ≤ 1000 ∧ dx ≠ a ∧ h.get? a = some (PySem.W.instObj C dx) ∧
      ∃ mA, h.Ns1 dx mA ∧ (∀ f, RelO (fs.lookup f) (mA f)) ∧ PySem.Within mA (fs.map (·.1))
  | .own _ => ∃ o, h.get? a = some o
  | .xd fs => ∃ mA, h.Ns1 a mA ∧ ∀ f, RelO (fs.lookup f) (mA f)
  | .rng lo hi => ∃ t u v, h.get? a = some { cls := .type "range", data := .fields #[.int lo t, .int hi u, .int 1 v] }
  | .frz o u => h.get? a = some o ∧ ObjOk H h a u
  | .tbl ps => h.get? a = some { cls := .none, data := .fields ps }
  | .met f x => h.get? a = some (PySem.W.methodObj (.ref f) (.ref x))
  | .ext φ => φ h ∧ (∃ o, h.get? a = some o) ∧ ∀ h1 h2 : Heap, φ h1 → (∀ o, h1.get? a = some o → h2.get? a = some o) → φ h2
def HOk (H : Hp) (h : Heap) : Prop := ∀ a o, H a = some o → ObjOk P w H h a o
end
section
variable {P : Program} {w : World} {H H' : Hp} {h h' : Heap} {a : Addr} {o : HO}
theorem ObjOk.lt (x : ObjOk P w H h a o) : a < h.objs.size := by
  cases o with
  | lst xs => obtain ⟨_, _, _, _, e⟩ := x; exact Heap.lt_size e
  | tup xs => obtain ⟨_, _, _, p⟩ := x; exact p.lt
  | dK kvs => obtain ⟨_, _, _, _, o, _, _, e, _⟩ := x; exact Heap.lt_size e
  | dT kvs => obtain ⟨_, _, _, _, o, _, _, e, _⟩ := x; exact Heap.lt_size e
  | set S n => obtain ⟨o, _, _, _, e, _⟩ := x; exact Heap.lt_size e
  | ins C dx fs => obtain ⟨_, _, _, e, _⟩ := x; exact Heap.lt_size e
  | own y => obtain ⟨_, e⟩ := x; exact Heap.lt_size e
  | xd fs => obtain ⟨_, ⟨_, _, _, e, _⟩, _⟩ := x; exact Heap.lt_size e
  | rng lo hi => obtain ⟨_, _, _, e⟩ := x; exact Heap.lt_size e
  | frz ob u => obtain ⟨e, _⟩ := x; exact Heap.lt_size e
  | tbl ps => exact Heap.lt_size (show h.get? a = some _ from x)
  | met f y => exact Heap.lt_size (show h.get? a = some _ from x)
  | ext φ => obtain ⟨_, ⟨_, e⟩, _⟩ := x; exact Heap.lt_size e
theorem Paired.mapP {α β : Type} {F G : α → β → Prop} : ∀ {l₁ : List α} {l₂ : List β}, Paired F l₁ l₂ → (∀ a b, F a b → G a b) → Paired G l₁ l₂
  | _, _, .nil, _ => .nil
  | _, _, .cons r t, f => .cons (f _ _ r) (Paired.mapP t f)
theorem ObjOk.stay (x : ObjOk P w H h a o) (k : ∀ b u, (b = a ∨ H b = some (.own a)) → h.get? b = some u → h'.get? b = some u)
    (ho : ∀ b, H b = some (.own a) → H' b = some (.own a)) (ht : ∀ b xs, H b = some (.tup xs) → H' b = some (.tup xs)) : ObjOk P w H' h' a o := by
  induction o with
  | lst xs => obtain ⟨z, its, n, r, e⟩ := x; exact ⟨z, its, n, r, k _ _ (.inl rfl) e⟩
  | tup xs => obtain ⟨z, its, r, ob, e, c⟩ := x; exact ⟨z, its, r, ob, k _ _ (.inl rfl) e, c⟩
  | dK kvs => obtain ⟨z, y, vs, r, ob, es, ep, e, c⟩ := x; exact ⟨z, y, vs, r, ob, es, ep, k _ _ (.inl rfl) e, c⟩
  | dT kvs =>
    obtain ⟨z, y, xs, r, ob, es, ep, e, c⟩ := x
    exact ⟨z, y, xs, Paired.mapP r fun p q z => ⟨z.1, ht _ _ z.2.1, z.2.2⟩, ob, es, ep, k _ _ (.inl rfl) e, c⟩
  | set S n => obtain ⟨ob, es, ep, t, e, c⟩ := x; exact ⟨ob, es, ep, t, k _ _ (.inl rfl) e, c⟩
  | ins C dx fs =>
    obtain ⟨d, z, ne, e, mA, ⟨od, es, ep, e2, c⟩, r⟩ := x
    exact ⟨ho _ d, z, ne, k _ _ (.inl rfl) e, mA, ⟨od, es, ep, k _ _ (.inr d) e2, c⟩, r⟩
  | own y => obtain ⟨ob, e⟩ := x; exact ⟨ob, k _ _ (.inl rfl) e⟩
  | xd fs => obtain ⟨mA, ⟨od, es, ep, e, c⟩, r⟩ := x; exact ⟨mA, ⟨od, es, ep, k _ _ (.inl rfl) e, c⟩, r⟩
  | rng lo hi => obtain ⟨t, u, v, e⟩ := x; exact ⟨t, u, v, k _ _ (.inl rfl) e⟩
  | frz ob u ih => obtain ⟨e, q⟩ := x; exact ⟨k _ _ (.inl rfl) e, ih q⟩
  | tbl ps =>
    have e : h.get? a = some { cls := .none, data := .fields ps } := x
    show h'.get? a = some { cls := .none, data := .fields ps }
    exact k a _ (.inl rfl) e
  | met f y =>
    have e : h.get? a = some (PySem.W.methodObj (.ref f) (.ref y)) := x
    show h'.get? a = some (PySem.W.methodObj (.ref f) (.ref y))
    exact k a _ (.inl rfl) e
  | ext φ => obtain ⟨p, ⟨o, e⟩, st⟩ := x; exact ⟨st _ _ p fun o q => k _ _ (.inl rfl) q, ⟨o, k _ _ (.inl rfl) e⟩, st⟩
theorem HOk.lt (x : HOk P w H h) (e : H a = some o) : a < h.objs.size := (x a o e).lt
theorem HOk.fresh (x : HOk P w H h) (e : h.objs.size ≤ a) : H a = none := by
  cases q : H a with
  | none => rfl
  | some u => exact absurd (Nat.lt_of_lt_of_le (x.lt q) e) (Nat.lt_irrefl _)
theorem HOk.kept (x : HOk P w H h) (k : ∀ b u, h.get? b = some u → h'.get? b = some u) : HOk P w H h' := fun a o e =>
  (x a o e).stay (fun b u _ q => k b u q) (fun _ q => q) fun _ _ q => q
theorem HOk.laid (x : HOk P w H h) (k : ∀ b u, h.get? b = some u → h'.get? b = some u) (hp : h.objs.size ≤ a) (new : ObjOk P w (upd H a o) h' a o) : HOk P w (upd H a o) h' := fun b u e => by
  have hn := x.fresh hp
  by_cases hb : b = a
  · subst hb; rw [upd_same] at e; cases e; exact new
  · rw [upd_ne hb] at e
    exact (x b u e).stay (fun c v _ q => k c v q) (fun c q => by rw [upd_ne (ne_of_none q hn)]; exact q) fun c xs q => by rw [upd_ne (ne_of_none q hn)]; exact q
end
def Rd (H : Hp) (a : Addr) (u : HO) : Prop := H a = some u ∨ ∃ o, H a = some (.frz o u)
theorem Rd.ok {P : Program} {w : World} {H : Hp} {h : Heap} {a : Addr} {u : HO} (r : Rd H a u) (x : HOk P w H h) : ObjOk P w H h a u := by
  rcases r with r | ⟨o, r⟩
  · exact x a u r
  · obtain ⟨_, q⟩ := x a _ r
    exact q
def Mut : Option HO → Prop
  | some (.lst _) => True
  | some (.dK _) => True
  | some (.dT _) => True
  | some (.set _ _) => True
  | some (.ins _ _ _) => True
  | some (.ext _) => True
  | _ => False
section
variable {P : Program} {w : World} {H : Hp} {h h' : Heap} {x e : Addr} {o' : HO}
theorem HOk.write (ok : HOk P w H h) (mu : Mut (H x)) (he : e = x ∨ H e = some (.own x)) (k : ∀ b u, b ≠ e → h.get? b = some u → h'.get? b = some u) (heo : ∃ u, h'.get? e = some u)
    (new : ObjOk P w (upd H x o') h' x o') : HOk P w (upd H x o') h' := fun b u q => by
  have nown : ∀ c y, H c = some (.own y) → c ≠ x := fun c y r z => by subst z; rw [r] at mu; exact mu
  have ntup : ∀ c xs, H c = some (.tup xs) → c ≠ x := fun c xs r z => by subst z; rw [r] at mu; exact mu
  by_cases hb : b = x
  · subst hb; rw [upd_same] at q; cases q; exact new
  · rw [upd_ne hb] at q
    by_cases hbe : b = e
    · have q' : H b = some (.own x) := by
        rcases he with z | z
        · exact absurd (hbe.trans z) hb
        · rw [hbe]; exact z
      rw [q] at q'; cases q'
      obtain ⟨v, hv⟩ := heo
      exact ⟨v, by rw [hbe]; exact hv⟩
    · refine (ok b u q).stay (fun c v hc r => k c v ?_ r) (fun c r => by rw [upd_ne (nown c b r)]; exact r) fun c xs r => by rw [upd_ne (ntup c xs r)]; exact r
      rcases hc with rfl | hc
      · exact hbe
      · rintro rfl
        rcases he with z | z
        · exact nown c b hc z
        · rw [hc] at z; cases z; exact hb rfl
end
structure Un (fs ex : List Addr) (H H' : Hp) (h h' : Heap) : Prop where
  keep : ∀ b o, h.get? b = some o → H b = none → b ∉ fs → b ∉ ex → h'.get? b = some o
  slot : ∀ b o, h.get? b = some o → H b = none → b ∈ fs → b ∉ ex → ∃ sl, h'.get? b = some { o with slots := sl }
  free : ∀ b o, h.get? b = some o → H b = none → b ∉ ex → H' b = none
  there : ∀ b o, h.get? b = some o → b ∉ ex → ∃ o', h'.get? b = some o'
  tups : ∀ b xs, H b = some (.tup xs) → H' b = some (.tup xs)
  frzs : ∀ b o u, H b = some (.frz o u) → H' b = some (.frz o u)
  tbls : ∀ b ps, H b = some (.tbl ps) → ∃ more, H' b = some (.tbl (ps ++ more))
section
variable {fs fs' ex ex' : List Addr} {H H1 H2 : Hp} {h h1 h2 h' : Heap} {a x e : Addr} {o : HO}
theorem Un.any (u : Un fs ex H H1 h h1) {b : Addr} {ob : Obj} (q : h.get? b = some ob) (n : H b = none) (hx : b ∉ ex) : ∃ sl, h1.get? b = some { ob with slots := sl } := by
  by_cases hb : b ∈ fs
  · exact u.slot b ob q n hb hx
  · exact ⟨ob.slots, u.keep b ob q n hb hx⟩
theorem Un.kept (k : ∀ b u, h.get? b = some u → h'.get? b = some u) : Un fs ex H H h h' :=
  ⟨fun b ob q _ _ _ => k b ob q, fun b ob q _ _ _ => ⟨ob.slots, k b ob q⟩, fun _ _ _ n _ => n, fun b ob q _ => ⟨ob, k b ob q⟩, fun _ _ q => q, fun _ _ _ q => q, fun _ ps q => ⟨#[], by rw [q]; simp⟩⟩
theorem Un.refl : Un fs ex H H h h := Un.kept fun _ _ q => q
theorem Un.laid (k : ∀ b u, h.get? b = some u → h'.get? b = some u) (hp : h.objs.size ≤ a) (hn : H a = none) : Un fs ex H (upd H a o) h h' where
  keep := fun b u q _ _ _ => k b u q
  slot := fun b u q _ _ _ => ⟨u.slots, k b u q⟩
  free := fun b u q n _ => by rw [upd_ne (Nat.ne_of_lt (Nat.lt_of_lt_of_le (Heap.lt_size q) hp))]; exact n
  there := fun b u q _ => ⟨u, k b u q⟩
  tups := fun b xs q => by rw [upd_ne (ne_of_none q hn)]; exact q
  frzs := fun b u xs q => by rw [upd_ne (ne_of_none q hn)]; exact q
  tbls := fun b ps q => ⟨#[], by rw [upd_ne (ne_of_none q hn), q]; simp⟩
theorem Un.write (mu : Mut (H x)) (he : e = x ∨ H e = some (.own x)) (k : ∀ b u, b ≠ e → h.get? b = some u → h'.get? b = some u) (heo : ∃ u, h'.get? e = some u) : Un fs ex H (upd H x o) h h' := by
  have hx : ∀ b, H b = none → b ≠ x := fun b n z => by subst z; rw [n] at mu; exact mu
  have hb : ∀ b, H b = none → b ≠ e := fun b n z => by
    subst z
    rcases he with r | r
    · exact hx b n r
    · rw [n] at r; cases r
  have hm : ∀ b u, H b = some u → ¬ Mut (some u) → b ≠ x := fun b u q nm z => by subst z; rw [q] at mu; exact nm mu
  refine ⟨fun b u q n _ _ => k b u (hb b n) q, fun b u q n _ _ => ⟨u.slots, k b u (hb b n) q⟩, fun b u q n _ => by rw [upd_ne (hx b n)]; exact n, fun b u q _ => ?_,
    fun b xs q => by rw [upd_ne (hm b _ q fun z => z)]; exact q, fun b u xs q => by rw [upd_ne (hm b _ q fun z => z)]; exact q, fun b ps q => ⟨#[], by rw [upd_ne (hm b _ q fun z => z), q]; simp⟩⟩
  by_cases hbe : b = e
  · subst hbe; exact heo
  · exact ⟨u, k b u hbe q⟩
end
def trk (h : Heap) (H : Hp) : List Addr := (List.range h.objs.size).filter fun a => (H a).isSome
def hidT (h : Heap) (H : Hp) : Heap := PySem.W.hideAll h (trk h H)
theorem hidT_size (h : Heap) (H : Hp) : (hidT h H).objs.size = h.objs.size := PySem.W.hideAll_size _ _
theorem hidT_get {h : Heap} {H : Hp} {b : Addr} {o : Obj} (e : h.get? b = some o) (n : H b = none) : (hidT h H).get? b = some o :=
  PySem.W.hideAll_get _ e fun hm => by
    have q : (H b).isSome = true := (List.mem_filter.mp hm).2
    rw [n] at q; simp at q
theorem of_hidT {h : Heap} {H : Hp} {b : Addr} {o : Obj} (e : (hidT h H).get? b = some o) : h.get? b = some o ∧ H b = none := by
  have e' : h.get? b = some o := PySem.W.of_hideAll (trk h H) e
  refine ⟨e', ?_⟩
  cases q : H b with
  | none => rfl
  | some x =>
    have hm : b ∈ trk h H := List.mem_filter.mpr ⟨List.mem_range.mpr (Heap.lt_size e'), by simp [q]⟩
    have z : (hidT h H).get? b = none := PySem.W.hideAll_none (trk h H) hm
    rw [z] at e; cases e
def allNews (g h : Heap) (L : Addr) : List (Addr × Obj) := (List.range h.objs.size).filterMap fun a => if a = L ∨ (g.get? a).isSome = true then none else (h.get? a).map fun o => (a, o)
def rest (g h : Heap) (L d : Addr) : List (Addr × Obj) := (allNews g h L).filter fun p => decide (p.1 ≠ d)
end L2
namespace L2
open PySem PySem.Spec PyProof.Rows
structure Mod (K : PySem.W.Frag) (mg : Str → Option Value) (base : Heap) : Prop where
  kin : K.In base
  glob : base.Ns mainGlobals mg
  blt : ∃ mb, base.Ns builtinsNs mb ∧ ∀ x : Str, x ≠ "__name__" → mb x = bootBuiltins x
  nolimit : base.NoLimit
structure Cx where
  prog : Program
  w : World
  K : PySem.W.Frag
  mg : Str → Option Value
  base : Heap
  A : Around
  N : List Str
  s₀ : Shared
  H₀ : Hp
  env : Env
  outer : List Env
  stack : List Env
  ex : List Addr
  fn : Str → Bool
  calm : Bool
  pn : List (Addr × Obj)
  xe : Value → Shared → Prop
def frs (l : List Env) : List Addr := l.filterMap (·.frame)
abbrev Cx.fs (X : Cx) : List Addr := frs X.outer
def Vis (sc : Scope) (x : Str) : Prop := sc.names.lookup x = some .local ∨ sc.names.lookup x = some .cell ∨ sc.names.lookup x = some .free
def Loc (sc : Scope) (x : Str) : Prop := sc.names.lookup x = some .local ∨ sc.names.lookup x = some .cell
def Look (env : Env) (h : Heap) (m : Str → Option Value) (x : Str) (u : Value) : Prop :=
  (env.kindOf x = some .local ∧ m x = some u) ∨ ((env.kindOf x = some .cell ∨ env.kindOf x = some .free) ∧ ∃ c, env.cells.lookup x = some c ∧ h.IsCell c (some u))
structure Cx.Ok (X : Cx) : Prop where
  mod : Mod X.K X.mg X.base
  kind : X.env.scope.kind = .function
  glob : X.env.globals = mainGlobals
  blt : X.env.builtins = builtinsNs
  above : X.s₀.heap.objs.size ≤ X.env.locals
  inj : ∀ x y c, X.env.cells.lookup x = some c → X.env.cells.lookup y = some c → x = y
  has : ∀ x, (X.env.kindOf x = some .cell ∨ X.env.kindOf x = some .free) → ∃ c, X.env.cells.lookup x = some c
  cab : ∀ x c, X.fn x = true → X.env.cells.lookup x = some c → X.s₀.heap.objs.size ≤ c
  hd : X.calm = true → X.A.handled = none
  frames : X.A.frames = some X.stack
  stk : X.stack = X.outer ∨ (X.stack = X.env :: X.outer ∧ X.env.frame = some X.env.locals)
  exf : ∀ b ∈ X.ex, b ≠ X.env.locals ∧ ∀ x c, X.env.cells.lookup x = some c → c ≠ b
  bs : ∀ b o, X.base.get? b = some o → X.s₀.heap.get? b = some o ∧ X.H₀ b = none
  bsz : X.base.objs.size ≤ X.s₀.heap.objs.size
  noex : ∀ b o, X.base.get? b = some o → b ∉ X.ex
  exfs : ∀ b ∈ X.ex, b ∉ X.fs
  funs : X.s₀.heap.FunFrames X.base X.outer
  frf : ∀ b ∈ X.fs, X.H₀ b = none
structure Inv (X : Cx) (pins : List (Addr × Obj)) (σ : List (Option V)) (H : Hp) (s : Shared) : Prop where
  ok : X.Ok
  os : s.os = X.s₀.os
  bare : AllBare s.gens
  base : Un X.fs X.ex X.H₀ H X.s₀.heap s.heap
  loc : ∃ m, s.heap.Ns X.env.locals m ∧ ∀ (i : Nat) (x : Str) (v : V), X.N[i]? = some x → σ[i]? = some (some v) → Vis X.env.scope x → ∃ u, RelV v u ∧ Look X.env s.heap m x u
  cell : ∀ x c, X.env.cells.lookup x = some c → ∃ v, s.heap.IsCell c v
  free : H X.env.locals = none
  freeC : ∀ x c, X.env.cells.lookup x = some c → H c = none
  pin : ∀ p ∈ X.pn ++ pins, s.heap.get? p.1 = some p.2 ∧ H p.1 = none ∧ p.1 ≠ X.env.locals ∧ p.1 ∉ X.fs ∧ ∀ v, p.2.data ≠ .cell v
  hok : HOk X.prog X.w H s.heap
  len : σ.length = X.N.length
section
variable {X : Cx} {pins : List (Addr × Obj)} {σ : List (Option V)} {H H' : Hp} {s : Shared} {h' : Heap}
theorem Cx.Ok.nofr (ok : X.Ok) {b : Addr} {o : Obj} (e : X.base.get? b = some o) : b ∉ X.fs := fun hb => by
  have := (ok.funs.mem hb).1
  rw [e] at this; cases this
theorem Inv.bs (I : Inv X pins σ H s) : ∀ b o, X.base.get? b = some o → s.heap.get? b = some o ∧ H b = none := fun b o e =>
  ⟨I.base.keep b o (I.ok.bs b o e).1 (I.ok.bs b o e).2 (I.ok.nofr e) (I.ok.noex b o e), I.base.free b o (I.ok.bs b o e).1 (I.ok.bs b o e).2 (I.ok.noex b o e)⟩
theorem Inv.bk (I : Inv X pins σ H s) : ∀ b o, X.base.get? b = some o → s.heap.get? b = some o := fun b o e => (I.bs b o e).1
theorem Inv.mod (I : Inv X pins σ H s) : Mod X.K X.mg X.base := I.ok.mod
theorem Inv.kIn (I : Inv X pins σ H s) : X.K.In s.heap := I.ok.mod.kin.keeps I.bk
theorem Inv.nolimit (I : Inv X pins σ H s) : s.heap.NoLimit := I.ok.mod.nolimit.keeps I.bk
theorem Inv.fr (I : Inv X pins σ H s) : ∃ m, Fr X.base X.env.locals s.heap m :=
  let ⟨m, hn, _⟩ := I.loc
  ⟨m, hn, I.bk, Nat.le_trans I.ok.bsz I.ok.above⟩
theorem Inv.lt (I : Inv X pins σ H s) : X.env.locals < s.heap.objs.size := let ⟨_, hn, _⟩ := I.loc; hn.lt
theorem Inv.sz (I : Inv X pins σ H s) : X.s₀.heap.objs.size ≤ s.heap.objs.size := Nat.le_trans I.ok.above (Nat.le_of_lt I.lt)
theorem Inv.nofs (I : Inv X pins σ H s) {a : Addr} (h : s.heap.objs.size ≤ a) : a ∉ X.fs := fun hb => by
  obtain ⟨_, o, ho, _⟩ := I.ok.funs.mem hb
  exact absurd (Nat.lt_of_lt_of_le (Heap.lt_size ho) (Nat.le_trans I.sz h)) (Nat.lt_irrefl _)
theorem Inv.cne (I : Inv X pins σ H s) : ∀ x c, X.env.cells.lookup x = some c → c ≠ X.env.locals := fun x c e z => by
  obtain ⟨v, o, ho, hd⟩ := I.cell x c e
  obtain ⟨m, ⟨o', es, ep, ho', hd', _⟩, _⟩ := I.loc
  rw [z, ho'] at ho; cases ho; rw [hd'] at hd; cases hd
theorem Inv.funs (I : Inv X pins σ H s) : s.heap.FunFrames X.base X.outer := by
  have all : ∀ (l : List Env), (∀ b ∈ frs l, b ∈ X.fs) → X.s₀.heap.FunFrames X.base l → s.heap.FunFrames X.base l := by
    intro l
    induction l with
    | nil => intro _ _; trivial
    | cons env r ih =>
      intro hs hl
      obtain ⟨hk, ⟨L, o, hf, hn, ho, hd⟩, hr⟩ := hl
      have hL : L ∈ X.fs := hs L (by unfold frs; rw [List.filterMap_cons, hf]; exact List.mem_cons_self)
      obtain ⟨sl, e⟩ := I.base.slot L o ho (I.ok.frf L hL) hL fun z => I.ok.exfs L z hL
      exact ⟨hk, ⟨L, _, hf, hn, e, hd⟩, ih (fun b hb => hs b (by unfold frs; rw [List.filterMap_cons, hf]; exact List.mem_cons_of_mem _ hb)) hr⟩
  exact all X.outer (fun _ hb => hb) I.ok.funs
theorem Inv.stack (I : Inv X pins σ H s) : s.heap.FunFrames X.base X.stack := by
  rcases I.ok.stk with e | ⟨e, hf⟩
  · rw [e]; exact I.funs
  · rw [e]
    obtain ⟨m, hn, _⟩ := I.loc
    refine .cons (by rw [I.ok.kind]; decide) hf hn ?_ I.funs
    exact Heap.get?_none_of_le (Nat.le_trans I.ok.bsz I.ok.above)
theorem Inv.stkSub (I : Inv X pins σ H s) : ∀ b ∈ frs X.stack, b ∈ X.env.locals :: X.fs := fun b hb => by
  rcases I.ok.stk with e | ⟨e, hf⟩
  · rw [e] at hb; exact List.mem_cons_of_mem _ hb
  · rw [e] at hb
    unfold frs at hb
    rw [List.filterMap_cons, hf] at hb
    exact hb
theorem Inv.stkFree (I : Inv X pins σ H s) : ∀ b ∈ frs X.stack, H b = none := fun b hb => by
  rcases List.mem_cons.mp (I.stkSub b hb) with e | hb
  · rw [e]; exact I.free
  · obtain ⟨_, o, ho, _⟩ := I.ok.funs.mem hb
    exact I.base.free b o ho (I.ok.frf b hb) fun z => I.ok.exfs b z hb
theorem Inv.step {g' : Array GenState} {t' : Nat} {d' : Drawn} {ch : List Addr} (I : Inv X pins σ H s)
    (hch : ∀ b ∈ ch, (b ∈ X.ex ∨ X.s₀.heap.objs.size ≤ b) ∧ b ≠ X.env.locals ∧ (∀ x c, X.env.cells.lookup x = some c → c ≠ b) ∧ ∀ p ∈ X.pn ++ pins, p.1 ≠ b)
    (keep : ∀ b o, b ≠ X.env.locals → b ∉ X.fs → b ∉ ch → s.heap.get? b = some o → H b = none → h'.get? b = some o)
    (slot : ∀ b o, b ≠ X.env.locals → b ∈ X.fs → b ∉ ch → s.heap.get? b = some o → H b = none → ∃ sl, h'.get? b = some { o with slots := sl }) (free : ∀ b o, b ∉ ch → s.heap.get? b = some o → H b = none → H' b = none)
    (there : ∀ b o, b ∉ ch → s.heap.get? b = some o → ∃ o', h'.get? b = some o')
    (tups : ∀ b xs, H b = some (.tup xs) → H' b = some (.tup xs)) (frzs : ∀ b o u, H b = some (.frz o u) → H' b = some (.frz o u)) (tbls : ∀ b ps, H b = some (.tbl ps) → ∃ more, H' b = some (.tbl (ps ++ more)))
    (ns : ∀ m, s.heap.Ns X.env.locals m → h'.Ns X.env.locals m) (hok : HOk X.prog X.w H' h') (hg : AllBare g') :
    Inv X pins σ H' { s with heap := h', gens := g', drawn := d', toks := t' } := by
  have neL : ∀ b o, X.s₀.heap.get? b = some o → b ≠ X.env.locals := fun b o e => Nat.ne_of_lt (Nat.lt_of_lt_of_le (Heap.lt_size e) I.ok.above)
  have neC : ∀ b o, X.s₀.heap.get? b = some o → b ∉ X.ex → b ∉ ch := fun b o e hx hb => by
    rcases (hch b hb).1 with z | z
    · exact hx z
    · exact absurd (Nat.lt_of_lt_of_le (Heap.lt_size e) z) (Nat.lt_irrefl _)
  have cellK : ∀ x c, X.env.cells.lookup x = some c → ∀ v, s.heap.IsCell c v → h'.IsCell c v := fun x c e v ⟨o, ho, hd⟩ => by
    have nch : c ∉ ch := fun z => (hch c z).2.2.1 x c e rfl
    by_cases hc : c ∈ X.fs
    · obtain ⟨sl, q⟩ := slot c o (I.cne x c e) hc nch ho (I.freeC x c e)
      exact ⟨_, q, hd⟩
    · exact ⟨o, keep c o (I.cne x c e) hc nch ho (I.freeC x c e), hd⟩
  refine ⟨I.ok, I.os, hg, ⟨fun b o e n hb hx => ?_, fun b o e n hb hx => ?_, fun b o e n hx => ?_, fun b o e hx => ?_, fun b xs e => tups b xs (I.base.tups b xs e), fun b o xs e => frzs b o xs (I.base.frzs b o xs e), fun b ps e => ?_⟩, ?_, fun x c e => ?_, ?_, fun x c e => ?_, fun p hp => ?_, hok, I.len⟩
  · exact keep b o (neL b o e) hb (neC b o e hx) (I.base.keep b o e n hb hx) (I.base.free b o e n hx)
  · obtain ⟨sl, e1⟩ := I.base.slot b o e n hb hx
    obtain ⟨sl', e2⟩ := slot b _ (neL b o e) hb (neC b o e hx) e1 (I.base.free b o e n hx)
    exact ⟨sl', e2⟩
  · obtain ⟨o', e1⟩ := I.base.there b o e hx
    exact free b o' (neC b o e hx) e1 (I.base.free b o e n hx)
  · obtain ⟨o', e1⟩ := I.base.there b o e hx
    exact there b o' (neC b o e hx) e1
  · obtain ⟨m1, e1⟩ := I.base.tbls b ps e
    obtain ⟨m2, e2⟩ := tbls b _ e1
    exact ⟨m1 ++ m2, by rw [e2, Array.append_assoc]⟩
  · obtain ⟨m, hn, hl⟩ := I.loc
    refine ⟨m, ns m hn, fun i x v e1 e2 e3 => ?_⟩
    obtain ⟨u, r, l⟩ := hl i x v e1 e2 e3
    refine ⟨u, r, ?_⟩
    rcases l with l | ⟨k, c, e, z⟩
    · exact .inl l
    · exact .inr ⟨k, c, e, cellK x c e _ z⟩
  · obtain ⟨v, z⟩ := I.cell x c e
    exact ⟨v, cellK x c e v z⟩
  · obtain ⟨m, ⟨o, _, _, ho, _⟩, _⟩ := I.loc
    exact free _ o (fun z => (hch _ z).2.1 rfl) ho I.free
  · obtain ⟨v, o, ho, hd⟩ := I.cell x c e
    exact free c o (fun z => (hch c z).2.2.1 x c e rfl) ho (I.freeC x c e)
  · obtain ⟨e, n, ne, nf, d⟩ := I.pin p hp
    have nch : p.1 ∉ ch := fun z => (hch p.1 z).2.2.2 p hp rfl
    exact ⟨keep p.1 p.2 ne nf nch e n, free p.1 p.2 nch e n, ne, nf, d⟩
theorem Inv.un {t' : Nat} (I : Inv X pins σ H s) (u : Un X.fs [] H H' s.heap h') (hok : HOk X.prog X.w H' h') : Inv X pins σ H' { s with heap := h', toks := t' } := by
  obtain ⟨m, ⟨o, es, ep, ho, r⟩, _⟩ := id I.loc
  obtain ⟨sl, hL⟩ := u.any ho I.free (by simp)
  exact I.step (g' := s.gens) (d' := s.drawn) (ch := []) (fun _ z => nomatch z) (fun b o _ hb _ e n => u.keep b o e n hb (by simp)) (fun b o _ hb _ e n => u.slot b o e n hb (by simp)) (fun b o _ e n => u.free b o e n (by simp)) (fun b o _ e => u.there b o e (by simp)) u.tups u.frzs u.tbls (fun m' hm => by
    obtain ⟨o', es', ep', ho', r'⟩ := hm
    rw [ho] at ho'; cases ho'
    exact ⟨_, es', ep', hL, r'⟩) hok I.bare
theorem Inv.call {g' : Array GenState} {t' : Nat} {d' : Drawn} {ch : List Addr} (I : Inv X pins σ H s) (u : Un (frs X.stack) ch H H' s.heap h') (hok : HOk X.prog X.w H' h') (hg : AllBare g')
    (hch : ∀ b ∈ ch, (b ∈ X.ex ∨ X.s₀.heap.objs.size ≤ b) ∧ b ≠ X.env.locals ∧ (∀ x c, X.env.cells.lookup x = some c → c ≠ b) ∧ ∀ p ∈ X.pn ++ pins, p.1 ≠ b) :
    Inv X pins σ H' { s with heap := h', gens := g', drawn := d', toks := t' } := by
  obtain ⟨m, ⟨o, es, ep, ho, r⟩, _⟩ := id I.loc
  obtain ⟨sl, hL⟩ := u.any ho I.free fun z => (hch _ z).2.1 rfl
  exact I.step (ch := ch) hch (fun b o hL hb hc e n => u.keep b o e n (fun z => (List.mem_cons.mp (I.stkSub b z)).elim hL hb) hc) (fun b o _ _ hc e n => u.any e n hc) (fun b o hc e n => u.free b o e n hc) (fun b o hc e => u.there b o e hc) u.tups u.frzs u.tbls (fun m' hm => by
    obtain ⟨o', es', ep', ho', r'⟩ := hm
    rw [ho] at ho'; cases ho'
    exact ⟨_, es', ep', hL, r'⟩) hok hg
theorem Inv.turned {t' : Nat} {it : Addr} (I : Inv X pins σ H s) (k : ∀ b o, b ≠ it → s.heap.get? b = some o → h'.get? b = some o) (hn : H it = none) (hL : it ≠ X.env.locals)
    (h1 : it ∈ X.ex ∨ X.s₀.heap.objs.size ≤ it) (h2 : ∀ x c, X.env.cells.lookup x = some c → c ≠ it) (h3 : ∀ p ∈ X.pn ++ pins, p.1 ≠ it) : Inv X pins σ H { s with heap := h', toks := t' } := by
  have nit : ∀ b u, H b = some u → b ≠ it := fun b u e z => by rw [z, hn] at e; cases e
  refine I.step (g' := s.gens) (d' := s.drawn) (ch := [it]) (fun b hb => ?_) (fun b o _ _ hc e _ => k b o (fun z => hc (by simp [z])) e) (fun b o _ _ hc e _ => ⟨o.slots, k b o (fun z => hc (by simp [z])) e⟩) (fun _ _ _ _ n => n)
    (fun b o hc e => ⟨o, k b o (fun z => hc (by simp [z])) e⟩) (fun _ _ e => e) (fun _ _ _ e => e) (fun b ps e => ⟨#[], by rw [e]; simp⟩) (fun m hm => ?_) (fun b u e => ?_) I.bare
  · have e : b = it := by simpa using hb
    subst e
    exact ⟨h1, hL, h2, h3⟩
  · obtain ⟨o, es, ep, ho, r⟩ := hm
    exact ⟨o, es, ep, k _ o (Ne.symm hL) ho, r⟩
  · refine (I.hok b u e).stay (fun c v hc q => k c v ?_ q) (fun _ q => q) fun _ _ q => q
    rcases hc with z | z
    · rw [z]; exact nit b u e
    · exact nit c _ z
theorem Inv.tok (I : Inv X pins σ H s) (t : Nat) : Inv X pins σ H { s with toks := t } := I.un (h' := s.heap) (t' := t) Un.refl I.hok
theorem Inv.kept {t' : Nat} (I : Inv X pins σ H s) (k : ∀ b u, s.heap.get? b = some u → h'.get? b = some u) : Inv X pins σ H { s with heap := h', toks := t' } := I.un (Un.kept k) (I.hok.kept k)
theorem Inv.laid {a : Addr} {o : HO} {t' : Nat} (I : Inv X pins σ H s) (k : ∀ b u, s.heap.get? b = some u → h'.get? b = some u) (hp : s.heap.objs.size ≤ a) (new : ObjOk X.prog X.w (upd H a o) h' a o) :
    Inv X pins σ (upd H a o) { s with heap := h', toks := t' } := I.un (Un.laid k hp (I.hok.fresh hp)) (I.hok.laid k hp new)
theorem Inv.write {x e : Addr} {o : HO} {t' : Nat} (I : Inv X pins σ H s) (mu : Mut (H x)) (he : e = x ∨ H e = some (.own x)) (k : ∀ b u, b ≠ e → s.heap.get? b = some u → h'.get? b = some u) (heo : ∃ u, h'.get? e = some u)
    (new : ObjOk X.prog X.w (upd H x o) h' x o) : Inv X pins σ (upd H x o) { s with heap := h', toks := t' } := I.un (Un.write mu he k heo) (I.hok.write mu he k heo new)
theorem Inv.pins_of {pins' : List (Addr × Obj)} (I : Inv X pins σ H s) (h : ∀ p ∈ pins', s.heap.get? p.1 = some p.2 ∧ H p.1 = none ∧ p.1 ≠ X.env.locals ∧ p.1 ∉ X.fs ∧ ∀ v, p.2.data ≠ .cell v) : Inv X pins' σ H s :=
  ⟨I.ok, I.os, I.bare, I.base, I.loc, I.cell, I.free, I.freeC, fun p hp => (List.mem_append.mp hp).elim (fun z => I.pin p (List.mem_append_left _ z)) (h p), I.hok, I.len⟩
theorem nodup_ix {N : List Str} (hN : N.Nodup) {i j : Nat} {x : Str} (a : N[i]? = some x) (b : N[j]? = some x) : i = j := by
  obtain ⟨h1, e1⟩ := List.getElem?_eq_some_iff.mp a
  obtain ⟨h2, e2⟩ := List.getElem?_eq_some_iff.mp b
  exact (List.getElem_inj hN).mp (e1.trans e2.symm)
theorem store_ok2 {M : Model} {A : Around} {E : Value → Shared → Prop} {i : Nat} {x : Str} {v : V} {u : Value} {Q : Unit → Shared → Prop} (I : Inv X pins σ H s) (hN : X.N.Nodup) (hi : X.N[i]? = some x) (hx : Loc X.env.scope x) (r : RelV v u)
    (h : ∀ s', Inv X pins (σ.set i (some v)) H s' → (∃ a, Heap.SameBut a s.heap s'.heap ∧ (a = X.env.locals ∨ X.env.cells.lookup x = some a)) → Q () s') (hf : X.fn x = true ∨ X.env.scope.names.lookup x = some .local := by first | exact .inl rfl | exact .inr rfl | assumption) : wpAny M A (storeName X.env x u) Q E s := by
  obtain ⟨m, hn, hl⟩ := id I.loc
  have hcls : (X.env.scope.kind == .class || (X.env.scope.kind == .module && X.env.locals != X.env.globals)) = false := by rw [I.ok.kind]; rfl
  have hiσ : i < σ.length := by rw [I.len]; exact (List.getElem?_eq_some_iff.mp hi).1
  have cne := I.cne
  have tracked : ∀ {a : Addr} {h' : Heap}, (∃ o, s.heap.get? a = some o ∧ H a = none) → Heap.SameBut a s.heap h' → HOk X.prog X.w H h' := fun {a h'} ha hs b ob e => by
    obtain ⟨_, _, hfree⟩ := ha
    refine (I.hok b ob e).stay (fun c w' hc q => (hs.2 c ?_).trans q) (fun _ q => q) fun _ _ q => q
    rintro rfl
    rcases hc with rfl | hc
    · rw [hfree] at e; cases e
    · rw [hfree] at hc; cases hc
  rcases hx with hk | hk
  · refine wpAny_storeName_local hk hn (fun h' hn' hs => ?_) hcls
    obtain ⟨oL, _, _, hoL, _⟩ := id hn
    refine h _ ⟨I.ok, I.os, I.bare, ⟨fun b o e n hb hx => ?_, fun b o e n hb hx => ?_, I.base.free, fun b o e hx => ?_, I.base.tups, I.base.frzs, I.base.tbls⟩, ⟨_, hn', fun j y v' e1 e2 e3 => ?_⟩, fun y c e => ?_, I.free, I.freeC, fun p hp => ?_, tracked ⟨oL, hoL, I.free⟩ hs, by simpa using I.len⟩ ⟨_, hs, .inl rfl⟩
    · exact (hs.2 b (Nat.ne_of_lt (Nat.lt_of_lt_of_le (Heap.lt_size e) I.ok.above))).trans (I.base.keep b o e n hb hx)
    · obtain ⟨sl, e1⟩ := I.base.slot b o e n hb hx
      exact ⟨sl, (hs.2 b (Nat.ne_of_lt (Nat.lt_of_lt_of_le (Heap.lt_size e) I.ok.above))).trans e1⟩
    · obtain ⟨o', e1⟩ := I.base.there b o e hx
      exact ⟨o', (hs.2 b (Nat.ne_of_lt (Nat.lt_of_lt_of_le (Heap.lt_size e) I.ok.above))).trans e1⟩
    · by_cases hj : j = i
      · subst hj
        rw [hi] at e1; cases e1
        rw [List.getElem?_set_self hiσ] at e2
        cases e2
        exact ⟨u, r, .inl ⟨hk, by simp⟩⟩
      · rw [List.getElem?_set_ne (Ne.symm hj)] at e2
        obtain ⟨u', r', q⟩ := hl j y v' e1 e2 e3
        refine ⟨u', r', ?_⟩
        rcases q with ⟨k, e⟩ | ⟨k, c, e, z⟩
        · refine .inl ⟨k, ?_⟩
          have : y ≠ x := fun e => hj (nodup_ix hN e1 (e ▸ hi))
          simp [this, e]
        · exact .inr ⟨k, c, e, z.sameBut hs (cne y c e)⟩
    · obtain ⟨w', z⟩ := I.cell y c e
      exact ⟨w', z.sameBut hs (cne y c e)⟩
    · obtain ⟨e, n, ne, nf, d⟩ := I.pin p hp
      exact ⟨(hs.2 p.1 ne).trans e, n, ne, nf, d⟩
  · have hfn : X.fn x = true := by
      rcases hf with z | z
      · exact z
      · rw [z] at hk; cases hk
    obtain ⟨c, hc⟩ := I.ok.has x (.inl hk)
    obtain ⟨w', z⟩ := I.cell x c hc
    refine wpAny_storeName_cell I.ok.kind hk hc z (fun h' hc' hs => ?_)
    obtain ⟨oc, hoc, hocd⟩ := id z
    refine h { s with heap := h' } ⟨I.ok, I.os, I.bare, ⟨fun b o e n hb hx => ?_, fun b o e n hb hx => ?_, I.base.free, fun b o e hx => ?_, I.base.tups, I.base.frzs, I.base.tbls⟩, ⟨m, hn.sameBut hs (Ne.symm (cne x c hc)), fun j y v' e1 e2 e3 => ?_⟩, fun y c' e => ?_, I.free, I.freeC, fun p hp => ?_, tracked ⟨oc, hoc, I.freeC x c hc⟩ hs, by simpa using I.len⟩ ⟨c, hs, .inr hc⟩
    · exact (hs.2 b (Nat.ne_of_lt (Nat.lt_of_lt_of_le (Heap.lt_size e) (I.ok.cab x c hfn hc)))).trans (I.base.keep b o e n hb hx)
    · obtain ⟨sl, e1⟩ := I.base.slot b o e n hb hx
      exact ⟨sl, (hs.2 b (Nat.ne_of_lt (Nat.lt_of_lt_of_le (Heap.lt_size e) (I.ok.cab x c hfn hc)))).trans e1⟩
    · obtain ⟨o', e1⟩ := I.base.there b o e hx
      exact ⟨o', (hs.2 b (Nat.ne_of_lt (Nat.lt_of_lt_of_le (Heap.lt_size e) (I.ok.cab x c hfn hc)))).trans e1⟩
    · by_cases hj : j = i
      · subst hj
        rw [hi] at e1; cases e1
        rw [List.getElem?_set_self hiσ] at e2
        cases e2
        exact ⟨u, r, .inr ⟨.inl hk, c, hc, hc'⟩⟩
      · rw [List.getElem?_set_ne (Ne.symm hj)] at e2
        obtain ⟨u', r', q⟩ := hl j y v' e1 e2 e3
        refine ⟨u', r', ?_⟩
        rcases q with q | ⟨k, c', e, z'⟩
        · exact .inl q
        · refine .inr ⟨k, c', e, z'.sameBut hs ?_⟩
          rintro rfl
          exact hj (nodup_ix hN e1 (I.ok.inj _ _ _ e hc ▸ hi))
    · by_cases hcc : c' = c
      · subst hcc; exact ⟨_, hc'⟩
      · obtain ⟨w2, z2⟩ := I.cell y c' e
        exact ⟨w2, z2.sameBut hs hcc⟩
    · obtain ⟨e, n, ne, nf, d⟩ := I.pin p hp
      refine ⟨(hs.2 p.1 ?_).trans e, n, ne, nf, d⟩
      intro q
      rw [q, hoc] at e
      have q' : oc = p.2 := Option.some.inj e
      exact d w' (by rw [← q']; exact hocd)
theorem store_ok {M : Model} {A : Around} {E : Value → Shared → Prop} {i : Nat} {x : Str} {v : V} {u : Value} {Q : Unit → Shared → Prop} (I : Inv X pins σ H s) (hN : X.N.Nodup) (hi : X.N[i]? = some x) (hx : Loc X.env.scope x) (r : RelV v u)
    (h : ∀ s', Inv X pins (σ.set i (some v)) H s' → Q () s') (hf : X.fn x = true ∨ X.env.scope.names.lookup x = some .local := by first | exact .inl rfl | exact .inr rfl | assumption) : wpAny M A (storeName X.env x u) Q E s :=
  store_ok2 I hN hi hx r (fun s' I' _ => h s' I') hf
theorem Inv.call' {s' : Shared} {ch : List Addr} (I : Inv X pins σ H s) (ho : s'.os = s.os) (u : Un (frs X.stack) ch H H' s.heap s'.heap) (hok : HOk X.prog X.w H' s'.heap) (hg : AllBare s'.gens)
    (hch : ∀ b ∈ ch, (b ∈ X.ex ∨ X.s₀.heap.objs.size ≤ b) ∧ b ≠ X.env.locals ∧ (∀ x c, X.env.cells.lookup x = some c → c ≠ b) ∧ ∀ p ∈ X.pn ++ pins, p.1 ≠ b) : Inv X pins σ H' s' := by
  obtain ⟨h', g', d', t', o'⟩ := s'
  have e : o' = s.os := ho
  subst e
  exact I.call (g' := g') (t' := t') (d' := d') u hok hg hch
end
abbrev XK := Value → Option Addr → Hp → Prop
abbrev St := List (Option V)
abbrev VK := V → Hp → Prop
abbrev TE := St → Hp → VK → Prop
abbrev TT := St → Hp → (Bool → Hp → Prop) → Prop
abbrev TA := St → Hp → (List V → Hp → Prop) → Prop
structure Ends where
  nx : St → Hp → Prop
  rt : VK
  bk : St → Hp → Prop := fun _ _ => False
  ct : St → Hp → Prop := fun _ _ => False
abbrev TS := Ends → St → Hp → Prop
def EP (X : Cx) (pins : List (Addr × Obj)) (σ : St) (Q : VK) (u : Value) (s' : Shared) : Prop := ∃ v H', Inv X pins σ H' s' ∧ RelV v u ∧ Q v H'
def TP (X : Cx) (pins : List (Addr × Obj)) (σ : St) (Q : Bool → Hp → Prop) (b : Bool) (s' : Shared) : Prop := ∃ H', Inv X pins σ H' s' ∧ Q b H'
def AP (X : Cx) (pins : List (Addr × Obj)) (σ : St) (Q : List V → Hp → Prop) (us : List Value) (s' : Shared) : Prop := ∃ vs H', Inv X pins σ H' s' ∧ Vals vs us ∧ Q vs H'
def SP (X : Cx) (pins : List (Addr × Obj)) (D : Ends) (f : Flow) (s' : Shared) : Prop :=
  match f with
  | .next => ∃ σ' H', Inv X pins σ' H' s' ∧ D.nx σ' H'
  | .brk => ∃ σ' H', Inv X pins σ' H' s' ∧ D.bk σ' H'
  | .cont => ∃ σ' H', Inv X pins σ' H' s' ∧ D.ct σ' H'
  | .ret u => ∃ v σ' H', Inv X pins σ' H' s' ∧ RelV v u ∧ D.rt v H'
def PE (X : Cx) (e : Expr) (t : TE) : Prop :=
  ∀ (pins : List (Addr × Obj)) (s : Shared) (σ : St) (H : Hp) (Q : VK), Inv X pins σ H s → t σ H Q → wpAny (model X.prog X.w) X.A (eval e X.env) (EP X pins σ Q) X.xe s
def PT (X : Cx) (e : Expr) (t : TT) : Prop :=
  ∀ (pins : List (Addr × Obj)) (s : Shared) (σ : St) (H : Hp) (Q : Bool → Hp → Prop), Inv X pins σ H s → t σ H Q → wpAny (model X.prog X.w) X.A (isTrue e X.env (eval e X.env)) (TP X pins σ Q) X.xe s
def PW (X : Cx) (e : Expr) (t : TT) : Prop :=
  ∀ (whole : Sem Value) (pins : List (Addr × Obj)) (s : Shared) (σ : St) (H : Hp) (Q : Bool → Hp → Prop), Inv X pins σ H s → t σ H Q → wpAny (model X.prog X.w) X.A (isTrue e X.env whole) (TP X pins σ Q) X.xe s
theorem PW.pt {X : Cx} {e : Expr} {t : TT} (h : PW X e t) : PT X e t := h _
def PA (X : Cx) (es : List Expr) (t : TA) : Prop :=
  ∀ (pos : Pos) (pins : List (Addr × Obj)) (s : Shared) (σ : St) (H : Hp) (Q : List V → Hp → Prop), Inv X pins σ H s → t σ H Q → wpAny (model X.prog X.w) X.A (spliced (backTo pos (starEach es X.env))) (AP X pins σ Q) X.xe s
def PS (X : Cx) (st : Stmt) (t : TS) : Prop :=
  ∀ (pins : List (Addr × Obj)) (s : Shared) (σ : St) (H : Hp) (D : Ends), Inv X pins σ H s → t D σ H → wpAny (model X.prog X.w) X.A (exec st X.env) (SP X pins D) X.xe s
def PSs (X : Cx) (st : List Stmt) (t : TS) : Prop :=
  ∀ (pins : List (Addr × Obj)) (s : Shared) (σ : St) (H : Hp) (D : Ends), Inv X pins σ H s → t D σ H → wpAny (model X.prog X.w) X.A (execs st X.env) (SP X pins D) X.xe s
theorem thn {α : Type} {t : Sem α} {Q Q' : α → Shared → Prop} {M : Model} {A : Around} {E : Value → Shared → Prop} {s : Shared} (h : wpAny M A t Q E s) (hQ : ∀ a s, Q a s → Q' a s) : wpAny M A t Q' E s := wpAny_mono h hQ fun _ _ x => x
end L2
namespace L2
open PySem PySem.Spec PyProof.Rows
section
variable {X : Cx}
theorem bin {a b : Expr} {ta tb : TE} (ha : PE X a ta) (hb : PE X b tb) {pins : List (Addr × Obj)} {s : Shared} {σ : St} {H : Hp} {R : V → V → Hp → Prop} (I : Inv X pins σ H s) (h : ta σ H fun x H1 => tb σ H1 fun y H2 => R x y H2)
    {α : Type} {Q : α → Shared → Prop} {f : Value → Value → Sem α}
    (hf : ∀ v u s2 x y H2, Inv X pins σ H2 s2 → RelV x v → RelV y u → R x y H2 → wpAny (model X.prog X.w) X.A (f v u) Q X.xe s2) :
    wpAny (model X.prog X.w) X.A (eval a X.env) (fun v s₁ => wpAny (model X.prog X.w) X.A (eval b X.env) (fun u s₂ => wpAny (model X.prog X.w) X.A (f v u) Q X.xe s₂) X.xe s₁) X.xe s := by
  refine thn (ha pins s σ H _ I h) fun v s1 ⟨x, H1, I1, r1, q1⟩ => ?_
  refine thn (hb pins s1 σ H1 _ I1 q1) fun u s2 ⟨y, H2, I2, r2, q2⟩ => ?_
  exact hf v u s2 x y H2 I2 r1 r2 q2
def tVar (i : Nat) : TE := fun σ H Q => ∃ v, σ[i]? = some (some v) ∧ Q v H
def tC (v : V) : TE := fun _ H Q => Q v H
theorem pe_var {i : Nat} {x : Str} {pos : Pos} (hN : X.N[i]? = some x) (hv : Vis X.env.scope x) (hd : (x == ("__debug__" : Str)) = false := by decide) (hcd : (x == ("__classdict__" : Str)) = false := by decide) : PE X (.Name x pos) (tVar i) := by
  intro pins s σ H Q I h
  obtain ⟨v, e, h⟩ := h
  obtain ⟨m, hn, hl⟩ := I.loc
  obtain ⟨u, r, l⟩ := hl i x v hN e hv
  have fin : EP X pins σ Q u s := ⟨v, H, I, r, h⟩
  rcases l with ⟨hk, hm⟩ | ⟨hk, c, hc, hcell⟩
  · exact wpAny_Name (wpAny_loadName_local I.ok.kind hk hn hm fin) hd
  · rcases hk with hk | hk
    · exact wpAny_Name (wpAny_loadName_cell I.ok.kind hk hc hcell fin) hd
    · exact wpAny_Name (wpAny_loadName_free I.ok.kind hk hc hcell fin hcd) hd
theorem pe_int {i j pos} : PE X (.Constant (.int i) j pos) (tC (.int i)) := fun _ _ _ H _ I h => wpAny_Constant_int ⟨.int i, H, I.tok _, ⟨_, rfl⟩, h⟩
theorem pe_bl {b j pos} : PE X (.Constant (.bool b) j pos) (tC (.bl b)) := fun _ _ _ H _ I h => Constant_bool ⟨.bl b, H, I, rfl, h⟩
theorem pe_non {j pos} : PE X (.Constant .none j pos) (tC .non) := fun _ _ _ H _ I h => Constant_none ⟨.non, H, I, rfl, h⟩
theorem pe_str {x j pos} : PE X (.Constant (.str x) j pos) (tC (.str x)) := fun _ _ _ H _ I h => Calls.Constant_str ⟨.str x, H, I.tok _, ⟨_, rfl⟩, h⟩
def Gl (X : Cx) (x : Str) : Prop := X.env.kindOf x = some .globalImplicit
theorem ld_glob {E : Value → Shared → Prop} {pins : List (Addr × Obj)} {s : Shared} {σ : St} {H : Hp} {x : Str} {u : Value} {pos : Pos} {Q : Value → Shared → Prop} (I : Inv X pins σ H s) (hg : Gl X x) (hm : X.mg x = some u) (h : Q u s)
    (hd : (x == ("__debug__" : Str)) = false := by decide) : wpAny (model X.prog X.w) X.A (eval (.Name x pos) X.env) Q E s :=
  Calls.Name_function_global I.ok.kind hg (Calls.loadGlobal_global (by rw [I.ok.glob]; exact I.mod.glob.keeps I.bk) hm h) hd
theorem ld_blt {E : Value → Shared → Prop} {pins : List (Addr × Obj)} {s : Shared} {σ : St} {H : Hp} {x : Str} {u : Value} {pos : Pos} {Q : Value → Shared → Prop} (I : Inv X pins σ H s) (hg : Gl X x) (hm : X.mg x = none) (hv : bootBuiltins x = some u) (h : Q u s)
    (hn : x ≠ "__name__" := by decide) (hd : (x == ("__debug__" : Str)) = false := by decide) : wpAny (model X.prog X.w) X.A (eval (.Name x pos) X.env) Q E s := by
  obtain ⟨mb, h1, h2⟩ := I.mod.blt
  exact Calls.Name_function_global I.ok.kind hg (Calls.loadGlobal_builtin (by rw [I.ok.glob]; exact I.mod.glob.keeps I.bk) hm (by rw [I.ok.blt]; exact h1.keeps I.bk) ((h2 x hn).trans hv) h) hd
theorem pe_bltn {x : Str} {v : V} {u : Value} {pos : Pos} (hg : Gl X x) (hm : X.mg x = none) (hv : bootBuiltins x = some u) (r : RelV v u) (hn : x ≠ "__name__" := by decide) (hd : (x == ("__debug__" : Str)) = false := by decide) : PE X (.Name x pos) (tC v) :=
  fun _ _ _ H _ I h => ld_blt I hg hm hv ⟨v, H, I, r, h⟩ hn hd
variable {a b : Expr} {ta tb : TE} {pos : Pos}
def PC (X : Cx) (op : CmpOp) (a b : Expr) (t : TE) : Prop :=
  ∀ (pins : List (Addr × Obj)) (s : Shared) (σ : St) (H : Hp) (Q : VK), Inv X pins σ H s → t σ H Q →
    wpAny (model X.prog X.w) X.A (eval a X.env) (fun v s₁ => wpAny (model X.prog X.w) X.A (eval b X.env) (fun u s₂ => wpAny (model X.prog X.w) X.A (compareOp op v u) (EP X pins σ Q) X.xe s₂) X.xe s₁) X.xe s
theorem nobehind (b : Expr) {op : CmpOp} (h : op ≠ .In) (h2 : op ≠ .NotIn) : behindInMarks op b = false := by
  have e1 : (op == CmpOp.In) = false := by cases op <;> first | rfl | exact absurd rfl h
  have e2 : (op == CmpOp.NotIn) = false := by cases op <;> first | rfl | exact absurd rfl h2
  cases b <;> simp [behindInMarks, e1, e2]
def tB (t : TE) : TT := fun σ H Q => t σ H fun x H1 => ∃ c, x = .bl c ∧ Q c H1
theorem pt_cmp {op : CmpOp} {t : TE} (h : PC X op a b t) (h1 : behindInMarks op b = false := by first | exact nobehind _ (by decide) (by decide) | rfl) : PT X (.Compare a [op] [b] pos) (tB t) := by
  intro pins s σ H Q I hw
  refine wpAny_isTrue_Compare1 (thn (h pins s σ H _ I hw) fun v s1 h1 => thn h1 fun u s2 h2 => thn h2 fun c s3 ⟨x, H1, I1, r1, q1⟩ => ?_) h1
  obtain ⟨d, rfl, q⟩ := q1
  cases r1
  exact wpAny_truthy_bool ⟨H1, I1, q⟩
theorem pt_val {e : Expr} {t : TE} (h : PE X e t) (he : ∀ whole, isTrue e X.env whole = (do let v ← whole; standAt e.pos; holding [v] (truthy v)) := by intro _; rfl) : PT X e (tB t) := by
  intro pins s σ H Q I hw
  refine isTrue_plain (thn (h pins s σ H _ I hw) fun v s1 ⟨x, H1, I1, r1, q1⟩ => ?_) (he _)
  obtain ⟨d, rfl, q⟩ := q1
  cases r1
  exact wpAny_truthy_bool ⟨H1, I1, q⟩
variable {tA tB' : TT} {rest : List Expr}
def tAnd (t u : TT) : TT := fun σ H Q => t σ H fun c H1 => if c = true then u σ H1 Q else Q false H1
def tOr (t u : TT) : TT := fun σ H Q => t σ H fun c H1 => if c = true then Q true H1 else u σ H1 Q
def tNot (t : TT) : TT := fun σ H Q => t σ H fun c H1 => Q (!c) H1
theorem pw_and1 (ha : PT X a tA) : PW X (.BoolOp .And [a] pos) tA := by
  intro wh pins s σ H Q I h
  refine isTrue_and (thn (ha pins s σ H Q I h) fun c s1 e => ?_)
  cases c with
  | true => exact isTrue_and_nil e
  | false => exact e
theorem pw_or1 (ha : PT X a tA) : PW X (.BoolOp .Or [a] pos) tA := by
  intro wh pins s σ H Q I h
  refine isTrue_or (thn (ha pins s σ H Q I h) fun c s1 e => ?_)
  cases c with
  | false => exact isTrue_or_nil e
  | true => exact e
theorem pw_and (ha : PT X a tA) (hb : PW X (.BoolOp .And (b :: rest) pos) tB') : PW X (.BoolOp .And (a :: b :: rest) pos) (tAnd tA tB') := by
  intro wh pins s σ H Q I h
  refine isTrue_and (thn (ha pins s σ H _ I h) fun c s1 ⟨H1, I1, q1⟩ => ?_)
  cases c with
  | true => exact hb wh pins s1 σ H1 Q I1 q1
  | false => exact ⟨H1, I1, q1⟩
theorem pw_or (ha : PT X a tA) (hb : PW X (.BoolOp .Or (b :: rest) pos) tB') : PW X (.BoolOp .Or (a :: b :: rest) pos) (tOr tA tB') := by
  intro wh pins s σ H Q I h
  refine isTrue_or (thn (ha pins s σ H _ I h) fun c s1 ⟨H1, I1, q1⟩ => ?_)
  cases c with
  | true => exact ⟨H1, I1, q1⟩
  | false => exact hb wh pins s1 σ H1 Q I1 q1
theorem pt_not (ha : PT X a tA) : PT X (.UnaryOp .Not a pos) (tNot tA) := by
  intro pins s σ H Q I h
  exact isTrue_not (ha pins s σ H (fun c H1 => Q (!c) H1) I h)
def tAndV (ta tb : TE) : TE := fun σ H Q => ta σ H fun x H1 => ∃ c, x = .bl c ∧ if c = true then tb σ H1 Q else Q (.bl false) H1
def tNotV (ta : TE) : TE := fun σ H Q => ta σ H fun x H1 => ∃ c, x = .bl c ∧ Q (.bl (!c)) H1
theorem pe_one {op} {t : TE} (h : PE X a t) : PE X (.BoolOp op [a] pos) t := fun pins s σ H Q I hw => BoolOp_one (h pins s σ H Q I hw)
theorem pe_and (ha : PE X a ta) (hb : PE X (.BoolOp .And (b :: rest) pos) tb) : PE X (.BoolOp .And (a :: b :: rest) pos) (tAndV ta tb) := by
  intro pins s σ H Q I h
  refine BoolOp_and (thn (ha pins s σ H _ I h) fun v s1 ⟨x, H1, I1, r1, q1⟩ => ?_)
  obtain ⟨c, rfl, q1⟩ := q1
  cases r1
  refine wpAny_truthy_bool ?_
  cases c with
  | true => exact hb pins s1 σ H1 Q I1 q1
  | false => exact ⟨.bl false, H1, I1, rfl, q1⟩
theorem pe_not (ha : PE X a ta) : PE X (.UnaryOp .Not a pos) (tNotV ta) := by
  intro pins s σ H Q I h
  refine UnaryOp_ (thn (ha pins s σ H _ I h) fun v s1 ⟨x, H1, I1, r1, q1⟩ => ?_)
  obtain ⟨c, rfl, q1⟩ := q1
  cases r1
  exact not_of (wpAny_truthy_bool ⟨.bl (!c), H1, I1, rfl, q1⟩)
def tIf (t : TT) (ta tb : TE) : TE := fun σ H Q => t σ H fun c H1 => if c = true then ta σ H1 Q else tb σ H1 Q
theorem pe_ifExp {c : Expr} (hc : PT X c tA) (ha : PE X a ta) (hb : PE X b tb) : PE X (.IfExp c a b pos) (tIf tA ta tb) := by
  intro pins s σ H Q I h
  refine wpAny_IfExp (thn (hc pins s σ H _ I h) fun d s1 ⟨H1, I1, q1⟩ => ?_)
  cases d with
  | true => exact ha pins s1 σ H1 Q I1 q1
  | false => exact hb pins s1 σ H1 Q I1 q1
end
end L2
namespace L2
open PySem PySem.Spec PyProof.Rows
def SqL (K : PySem.W.Frag) (H : Hp) (a : Addr) (xs : List V) : Prop :=
  Rd H a (.lst xs) ∨
    ∃ (o : Obj) (its : Array Value) (n : Nat), K.lookup a = some o ∧ o.cls = .type "list" ∧ o.dict = none ∧ o.data = .seq its n ∧ its.size ≤ sizeLine ∧ Vals xs its.toList
def SqT (K : PySem.W.Frag) (H : Hp) (a : Addr) (xs : List V) : Prop :=
  Rd H a (.tup xs) ∨
    ∃ (o : Obj) (its : Array Value) (n : Nat), K.lookup a = some o ∧ o.cls = .type "tuple" ∧ o.data = .seq its n ∧ its.size ≤ sizeLine ∧ Vals xs its.toList
def absV : Value → Option V
  | .none => some .non
  | .bool b => some (.bl b)
  | .int i _ => some (.int i)
  | .str x _ => some (.str x)
  | .bytes b _ => some (.byt b)
  | .float b _ => some (.flt b)
  | .ref a => some (.ref a)
  | .type n => some (.ty n)
  | _ => none
theorem RelV.abs {x : V} {u : Value} (r : RelV x u) : absV u = some x := by
  cases x with
  | non => cases r; rfl
  | bl _ => cases r; rfl
  | int _ => obtain ⟨t, rfl⟩ := r; rfl
  | str _ => obtain ⟨t, rfl⟩ := r; rfl
  | byt _ => obtain ⟨t, rfl⟩ := r; rfl
  | flt _ => obtain ⟨t, rfl⟩ := r; rfl
  | ref _ => cases r; rfl
  | ty _ => cases r; rfl
theorem RelV.inj {x y : V} {u : Value} (r : RelV x u) (q : RelV y u) : x = y := Option.some.inj (r.abs.symm.trans q.abs)
theorem Vals.inj : ∀ {xs ys : List V} {us : List Value}, Vals xs us → Vals ys us → xs = ys
  | _, _, _, .nil, .nil => rfl
  | _, _, _, .cons r t, .cons r' t' => by rw [r.inj r', Vals.inj t t']
section
variable {X : Cx} {pins : List (Addr × Obj)} {σ : St} {H : Hp} {s : Shared} {a : Addr} {xs ys : List V}
theorem SqL.of {K : PySem.W.Frag} (h : H a = some (.lst xs)) : SqL K H a xs := .inl (.inl h)
theorem SqT.of {K : PySem.W.Frag} (h : H a = some (.tup xs)) : SqT K H a xs := .inl (.inl h)
theorem Inv.list (I : Inv X pins σ H s) (h : SqL X.K H a xs) : ∃ its : List Value, Vals xs its ∧ PlainL s.heap a its.toArray ∧ xs.length ≤ sizeLine := by
  rcases h with h | ⟨o, its, n, hk, hc, hd, hs, hz, r⟩
  · obtain ⟨z, its, n, r, e⟩ := h.ok I.hok
    exact ⟨its, r, ⟨_, n, e, rfl, rfl, rfl⟩, z⟩
  · refine ⟨its.toList, r, ⟨o, n, I.kIn a o hk, hc, hd, by simpa using hs⟩, ?_⟩
    have e := r.length
    simp only [Array.length_toList] at e
    omega
theorem Inv.tuple (I : Inv X pins σ H s) (h : SqT X.K H a xs) : ∃ its : List Value, Vals xs its ∧ IsTup s.heap a its.toArray ∧ xs.length ≤ sizeLine := by
  rcases h with h | ⟨o, its, n, hk, hc, hs, hz, r⟩
  · obtain ⟨z, its, r, p⟩ := h.ok I.hok
    exact ⟨its, r, p, z⟩
  · refine ⟨its.toList, r, ⟨o, I.kIn a o hk, hc, n, by simpa using hs⟩, ?_⟩
    have e := r.length
    simp only [Array.length_toList] at e
    omega
theorem Inv.list_inj (I : Inv X pins σ H s) (h : SqL X.K H a xs) (h' : SqL X.K H a ys) : xs = ys := by
  obtain ⟨its, r, ⟨o, n, e, _, _, d⟩, _⟩ := I.list h
  obtain ⟨its', r', ⟨o', n', e', _, _, d'⟩, _⟩ := I.list h'
  rw [e] at e'; cases e'
  rw [d] at d'
  injection d' with d1 _
  have : its = its' := by simpa using congrArg Array.toList d1
  subst this
  exact r.inj r'
theorem Inv.tuple_inj (I : Inv X pins σ H s) (h : SqT X.K H a xs) (h' : SqT X.K H a ys) : xs = ys := by
  obtain ⟨its, r, ⟨o, e, _, n, d⟩, _⟩ := I.tuple h
  obtain ⟨its', r', ⟨o', e', _, n', d'⟩, _⟩ := I.tuple h'
  rw [e] at e'; cases e'
  rw [d] at d'
  injection d' with d1 _
  have : its = its' := by simpa using congrArg Array.toList d1
  subst this
  exact r.inj r'
end
abbrev Cx.wish (X : Cx) (E : Value → Shared → Prop) : Cx := { X with xe := E }
abbrev Cx.nox (X : Cx) : Cx := X.wish fun _ _ => False
theorem Cx.Ok.wish {X : Cx} (ok : X.Ok) (E : Value → Shared → Prop) : (X.wish E).Ok :=
  ⟨ok.mod, ok.kind, ok.glob, ok.blt, ok.above, ok.inj, ok.has, ok.cab, ok.hd, ok.frames, ok.stk, ok.exf, ok.bs, ok.bsz, ok.noex, ok.exfs, ok.funs, ok.frf⟩
theorem Cx.Ok.unwish {X : Cx} {E : Value → Shared → Prop} (ok : (X.wish E).Ok) : X.Ok :=
  ⟨ok.mod, ok.kind, ok.glob, ok.blt, ok.above, ok.inj, ok.has, ok.cab, ok.hd, ok.frames, ok.stk, ok.exf, ok.bs, ok.bsz, ok.noex, ok.exfs, ok.funs, ok.frf⟩
section
variable {X : Cx} {pins : List (Addr × Obj)} {σ : St} {H : Hp} {s : Shared} {E : Value → Shared → Prop}
theorem Inv.wish (I : Inv X pins σ H s) (E : Value → Shared → Prop) : Inv (X.wish E) pins σ H s := ⟨I.ok.wish E, I.os, I.bare, I.base, I.loc, I.cell, I.free, I.freeC, I.pin, I.hok, I.len⟩
theorem Inv.unwish (I : Inv (X.wish E) pins σ H s) : Inv X pins σ H s := ⟨I.ok.unwish, I.os, I.bare, I.base, I.loc, I.cell, I.free, I.freeC, I.pin, I.hok, I.len⟩
theorem SP.unwish {D : Ends} {f : Flow} {s' : Shared} (h : SP (X.wish E) pins D f s') : SP X pins D f s' := by
  cases f with
  | next => obtain ⟨σ', H', I, q⟩ := h; exact ⟨σ', H', I.unwish, q⟩
  | brk => obtain ⟨σ', H', I, q⟩ := h; exact ⟨σ', H', I.unwish, q⟩
  | cont => obtain ⟨σ', H', I, q⟩ := h; exact ⟨σ', H', I.unwish, q⟩
  | ret u => obtain ⟨v, σ', H', I, r, q⟩ := h; exact ⟨v, σ', H', I.unwish, r, q⟩
theorem PSs.nox {st : List Stmt} {t : TS} (h : PSs X.nox st t) : PSs X st t := fun pins s σ H D I hw =>
  wpAny_mono (h pins s σ H D (I.wish _) hw) (fun _ _ q => q.unwish) fun _ _ z => False.elim z
end
section
variable {X : Cx} {st : Stmt} {rest : List Stmt} {t u : TS} {e : Expr} {te : TE} {pos : Pos}
def tNext : TS := fun D σ H => D.nx σ H
def tSeq (t u : TS) : TS := fun D σ H => t { D with nx := u D } σ H
theorem pss_nil : PSs X [] tNext := fun _ _ σ H _ I h => wpAny_execs_nil ⟨σ, H, I, h⟩
theorem pss_cons (h1 : PS X st t) (h2 : PSs X rest u) : PSs X (st :: rest) (tSeq t u) := by
  intro pins s σ H D I h
  refine wpAny_execs_cons (thn (h1 pins s σ H { D with nx := u D } I h) fun f s1 q => ?_)
  cases f with
  | next =>
    obtain ⟨σ', H', I', q⟩ := q
    exact h2 pins s1 σ' H' D I' q
  | ret v => exact q
  | brk => exact q
  | cont => exact q
theorem pss_one (h1 : PS X st t) : PSs X [st] t := by
  intro pins s σ H D I h
  refine wpAny_execs_cons (thn (h1 pins s σ H D I h) fun f s1 q => ?_)
  cases f with
  | next => exact wpAny_execs_nil q
  | ret v => exact q
  | brk => exact q
  | cont => exact q
theorem Inv.quiet {pins : List (Addr × Obj)} {σ : St} {H : Hp} {s : Shared} (I : Inv X pins σ H s) : interactive X.env = false := by simp [interactive, I.ok.kind]
def tDrop (te : TE) : TS := fun D σ H => te σ H fun _ H1 => D.nx σ H1
theorem ps_expr (he : PE X e te) (hs : swapsWith e none pos.line X.env = pure false := by rfl) : PS X (.Expr e pos) (tDrop te) := by
  intro pins s σ H D I h
  exact wpAny_Expr_any (thn (he pins s σ H _ I h) fun v s1 ⟨x, H1, I1, r1, q1⟩ => ⟨σ, H1, I1, q1⟩) I.quiet hs
def tRet (te : TE) : TS := fun D σ H => te σ H D.rt
theorem ps_ret (he : PE X e te) : PS X (.Return (some e) pos) (tRet te) := by
  intro pins s σ H D I h
  exact wpAny_Return_some (thn (he pins s σ H _ I h) fun v s1 ⟨x, H1, I1, r1, q1⟩ => ⟨x, σ, H1, I1, r1, q1⟩)
def tIfS (c : TT) (t u : TS) : TS := fun D σ H => c σ H fun b H1 => if b = true then t D σ H1 else u D σ H1
theorem ps_if {c : Expr} {a b : List Stmt} {tc : TT} (hc : PT X c tc) (ha : PSs X a t) (hb : PSs X b u) : PS X (.If c a b pos) (tIfS tc t u) := by
  intro pins s σ H D I h
  refine wpAny_If (thn (hc pins s σ H _ I h) fun d s1 ⟨H1, I1, q1⟩ => ?_)
  cases d with
  | true => exact ha pins s1 σ H1 D I1 q1
  | false => exact hb pins s1 σ H1 D I1 q1
def tNever : TS := fun _ _ _ => False
theorem pss_never {sts : List Stmt} : PSs X sts tNever := fun _ _ _ _ _ _ h => h.elim
end
abbrev TG := V → St → Hp → (St → Hp → Prop) → Prop
abbrev TGs := List V → St → Hp → (St → Hp → Prop) → Prop
def PG (X : Cx) (target : Expr) (t : TG) : Prop :=
  ∀ (pins : List (Addr × Obj)) (s : Shared) (σ : St) (H : Hp) (v : V) (u : Value) (Q : St → Hp → Prop), Inv X pins σ H s → RelV v u → t v σ H Q →
    wpAny (model X.prog X.w) X.A (assign target X.env u) (fun _ s' => ∃ σ' H', Inv X pins σ' H' s' ∧ Q σ' H') X.xe s
def PGs (X : Cx) (ts : List Expr) (t : TGs) : Prop :=
  ∀ (pins : List (Addr × Obj)) (s : Shared) (σ : St) (H : Hp) (vs : List V) (us : List Value) (Q : St → Hp → Prop), Inv X pins σ H s → Vals vs us → t vs σ H Q →
    wpAny (model X.prog X.w) X.A (assignInOrder ((assignEach ts X.env).map (·.2)) us) (fun _ s' => ∃ σ' H', Inv X pins σ' H' s' ∧ Q σ' H') X.xe s
abbrev TSet := V → V → V → Hp → (Hp → Prop) → Prop
def PSet (X : Cx) (t : TSet) : Prop :=
  ∀ (pins : List (Addr × Obj)) (s : Shared) (σ : St) (H : Hp) (o i v : V) (ov iv u : Value) (Q : Hp → Prop), Inv X pins σ H s → RelV o ov → RelV i iv → RelV v u → t o i v H Q →
    wpAny (model X.prog X.w) X.A (setItem ov iv u) (fun _ s' => ∃ H', Inv X pins σ H' s' ∧ Q H') X.xe s
abbrev TIp := V → V → Hp → VK → Prop
def PIp (X : Cx) (op : Operator) (t : TIp) : Prop :=
  ∀ (pins : List (Addr × Obj)) (s : Shared) (σ : St) (H : Hp) (x y : V) (v u : Value) (Q : VK), Inv X pins σ H s → RelV x v → RelV y u → t x y H Q →
    wpAny (model X.prog X.w) X.A (inplaceOp op v u) (EP X pins σ Q) X.xe s
section
variable {X : Cx} {pos : Pos}
def gName (i : Nat) : TG := fun v σ H Q => Q (σ.set i (some v)) H
theorem pg_name {i : Nat} {x : Str} (hN : X.N.Nodup) (hi : X.N[i]? = some x) (hx : Loc X.env.scope x) (hf : X.fn x = true ∨ X.env.scope.names.lookup x = some .local := by first | exact .inl rfl | exact .inr rfl | assumption) : PG X (.Name x pos) (gName i) := by
  intro pins s σ H v u Q I r h
  exact wpAny_assign_Name (store_ok I hN hi hx r (fun s' I' => ⟨_, H, I', h⟩) hf)
def gNil : TGs := fun vs σ H Q => vs = [] ∧ Q σ H
def gCons (t : TG) (u : TGs) : TGs := fun vs σ H Q => ∃ v r, vs = v :: r ∧ t v σ H fun σ' H' => u r σ' H' Q
theorem pgs_nil : PGs X [] gNil := by
  intro pins s σ H vs us Q I r h
  obtain ⟨e, h⟩ := h
  subst e
  cases r
  exact assignInOrder_nil ⟨σ, H, I, h⟩
theorem pgs_cons {e : Expr} {es : List Expr} {t : TG} {u : TGs} (h1 : PG X e t) (h2 : PGs X es u)
    (hs : (assignEach (e :: es) X.env).map (·.2) = assign e X.env :: (assignEach es X.env).map (·.2) := by rfl) : PGs X (e :: es) (gCons t u) := by
  intro pins s σ H vs us Q I r h
  obtain ⟨v, vr, e1, h⟩ := h
  subst e1
  cases r with
  | cons r rr =>
    rw [hs]
    refine assignInOrder_cons (thn (h1 pins s σ H _ _ _ I r h) fun _ s1 ⟨σ1, H1, I1, q1⟩ => ?_)
    exact h2 pins s1 σ1 H1 _ _ Q I1 rr q1
def gTup (K : PySem.W.Frag) (n : Nat) (t : TGs) : TG := fun v σ H Q => ∃ a xs, v = .ref a ∧ SqT K H a xs ∧ xs.length = n ∧ t xs σ H Q
theorem pg_tup {es : List Expr} {k : Nat} {t : TGs} {n : Nat} (hc : X.calm = true) (h : PGs X es t)
    (hn : (assignEach es X.env).length = n := by rfl) (hst : (assignEach es X.env).findIdx? (·.1) = none := by rfl) : PG X (.Tuple es k pos) (gTup X.K n t) := by
  intro pins s σ H v u Q I r hw
  obtain ⟨a, xs, e1, hq, hl, hw⟩ := hw
  subst e1
  cases r
  obtain ⟨its, rv, ht, hz⟩ := I.tuple hq
  refine assign_Tuple_tuple (I.ok.hd hc) ht (by simp [hn, ← hl, rv.length]) hst fun h' hx => ?_
  have I1 : Inv X pins σ H { s with heap := h' } := I.kept (t' := s.toks) fun b o e => hx b o (Nat.ne_of_lt (Heap.lt_size e)) e
  exact h pins _ σ H xs _ Q I1 (by simpa using rv) hw
def gSub (to ti : TE) (t : TSet) : TG := fun v σ H Q => to σ H fun o H1 => ti σ H1 fun i H2 => t o i v H2 fun H3 => Q σ H3
theorem pg_sub {o i : Expr} {to ti : TE} {t : TSet} (ho : PE X o to) (hi : PE X i ti) (hs : PSet X t)
    (ha : ∀ v, assign (.Subscript o i pos) X.env v = (do
      let ov ← holding [v] (eval o X.env)
      let iv ← holding [v, ov] (eval i X.env)
      standAt pos
      holding [v, ov, iv] (setItem ov iv v)
      release [v, ov, iv] []) := by intro _; rfl) : PG X (.Subscript o i pos) (gSub to ti t) := by
  intro pins s σ H v u Q I r h
  rw [ha]
  refine wpAny_bind (wpAny_holding (thn (ho pins s σ H _ I h) fun ov s1 ⟨x, H1, I1, r1, q1⟩ => ?_))
  refine wpAny_bind (wpAny_holding (thn (hi pins s1 σ H1 _ I1 q1) fun iv s2 ⟨y, H2, I2, r2, q2⟩ => ?_))
  refine wpAny_bind (wpAny_standAt (wpAny_bind (wpAny_holding (thn (hs pins s2 σ H2 x y v ov iv u _ I2 r1 r2 r q2) fun _ s3 ⟨H3, I3, q3⟩ => ?_))))
  exact wpAny_release ⟨σ, H3, I3, q3⟩
def tAsg (te : TE) (g : TG) : TS := fun D σ H => te σ H fun x H1 => g x σ H1 D.nx
theorem ps_asg {tg e : Expr} {te : TE} {g : TG} (he : PE X e te) (hg : PG X tg g) (hs : swapsWithSole [tg] e pos.line X.env = pure false := by rfl) (hw : swappedStores [tg] e X.env = pure none := by rfl)
    (h1 : (assignEach [tg] X.env).map (·.2) = [assign tg X.env] := by rfl) : PS X (.Assign [tg] e pos) (tAsg te g) := by
  intro pins s σ H D I h
  refine wpAny_Assign_stores (thn (he pins s σ H _ I h) fun v s1 ⟨x, H1, I1, r1, q1⟩ => ?_) hs hw
  rw [h1]
  exact thn (hg pins s1 σ H1 x v _ I1 r1 q1) fun _ s2 q => q
theorem ps_set {i : Nat} {x : Str} {e : Expr} {te : TE} {pos' : Pos} (hN : X.N.Nodup) (hi : X.N[i]? = some x) (hx : Loc X.env.scope x) (he : PE X e te) (hs : swapsWith e (some (.Name x pos')) pos.line X.env = pure false := by rfl) (hf : X.fn x = true ∨ X.env.scope.names.lookup x = some .local := by first | exact .inl rfl | exact .inr rfl | assumption) :
    PS X (.Assign [.Name x pos'] e pos) (tAsg te (gName i)) := by
  intro pins s σ H D I h
  refine wpAny_Assign_Name (thn (he pins s σ H _ I h) fun v s1 ⟨y, H1, I1, r1, q1⟩ => ?_) hs
  exact store_ok I1 hN hi hx r1 (fun s2 I2 => ⟨_, H1, I2, q1⟩) hf
def tPar (i j : Nat) (ta : TA) : TS := fun D σ H => ta σ H fun vs H1 => ∃ v w, vs = [v, w] ∧ D.nx ((σ.set i (some v)).set j (some w)) H1
theorem ps_par {i j : Nat} {x y : Str} {a b : Expr} {ta : TA} {px py pt : Pos} {kt k2 pt2} (hc : X.calm = true) (hN : X.N.Nodup) (hi : X.N[i]? = some x) (hj : X.N[j]? = some y) (hij : i ≠ j)
    (hx : X.env.scope.names.lookup x = some .local) (hy : X.env.scope.names.lookup y = some .local) (ha : PA X [a, b] ta)
    (hw : swappedStores [.Tuple [.Name x px, .Name y py] kt pt] (.Tuple [a, b] k2 pt2) X.env = pure (some [x, y]))
    (hs : swapsWithSole [.Tuple [.Name x px, .Name y py] kt pt] (.Tuple [a, b] k2 pt2) pos.line X.env = pure false := by rfl) :
    PS X (.Assign [.Tuple [.Name x px, .Name y py] kt pt] (.Tuple [a, b] k2 pt2) pos) (tPar i j ta) := by
  intro pins s σ H D I h
  rw [exec_Assign_arm]
  refine wpAny_bind (wpAny_standAt ?_)
  rw [hs]
  refine wpAny_bind (wpAny_pure ?_)
  rw [if_neg (by decide)]
  refine wpAny_bind (Tuple_ (thn (ha _ pins s σ H _ I h) fun us s1 ⟨vs, H1, I1, r1, q1⟩ => ?_))
  obtain ⟨v, w, e1, q1⟩ := q1
  subst e1
  obtain ⟨u1, u2, rfl, rv, rw'⟩ : ∃ u1 u2, us = [u1, u2] ∧ RelV v u1 ∧ RelV w u2 := by
    cases r1 with
    | cons p q =>
      cases q with
      | cons p' q' =>
        cases q'
        exact ⟨_, _, rfl, p, p'⟩
  refine wpAny_newObj_type ?_ (by show 2 ≤ sizeLine; decide)
  have I2 : Inv X pins σ H1 { s1 with heap := s1.heap.push { cls := .type "tuple", data := .seq [u1, u2].toArray } } := I1.kept (t' := s1.toks) fun b o e => Heap.get?_push_of_some _ e
  rw [hw]
  refine wpAny_bind (wpAny_pure ?_)
  show wpAny (model X.prog X.w) X.A (do rule "assign.swapped-stores"; let items ← unpackItems (.ref s1.heap.objs.size) 2 none; assignInOrder [fun v => bindName X.env y v, fun v => bindName X.env x v] items.reverse; pure Flow.next) _ _ _
  refine wpAny_bind (wpAny_rule (wpAny_bind (unpackItems_tuple (items := #[u1, u2]) (I.ok.hd hc) (IsTup.new s1.heap _) fun h' hx' => ?_)))
  have I3 := I2.kept (h' := h') (t' := s1.toks) fun b o e => hx' b o (Nat.ne_of_lt (Heap.lt_size e)) e
  show wpAny _ _ (assignInOrder [fun v => bindName X.env y v, fun v => bindName X.env x v] [u2, u1] >>= fun _ => pure Flow.next) _ _ _
  refine wpAny_bind (assignInOrder_cons (wpAny_bindName (store_ok I3 hN hj (.inl hy) rw' (fun s2 I4 => ?_) (.inr hy))))
  refine assignInOrder_cons (wpAny_bindName (store_ok I4 hN hi (.inl hx) rv (fun s3 I5 => assignInOrder_nil (wpAny_pure ?_)) (.inr hx)))
  rw [List.set_comm _ _ (Ne.symm hij)] at I5
  exact ⟨_, H1, I5, q1⟩
def tAugS (to ti te : TE) (tget : V → V → Hp → VK → Prop) (tip : TIp) (tset : TSet) : TS := fun D σ H => to σ H fun o H1 => ti σ H1 fun i H2 => tget o i H2 fun x H3 => te σ H3 fun y H4 => tip x y H4 fun z H5 => tset o i z H5 fun H6 => D.nx σ H6
def PGet (X : Cx) (t : V → V → Hp → VK → Prop) : Prop :=
  ∀ (pins : List (Addr × Obj)) (s : Shared) (σ : St) (H : Hp) (o i : V) (ov iv : Value) (Q : VK), Inv X pins σ H s → RelV o ov → RelV i iv → t o i H Q →
    wpAny (model X.prog X.w) X.A (getItem ov iv) (EP X pins σ Q) X.xe s
theorem ps_augS {o i e : Expr} {to ti te : TE} {tget : V → V → Hp → VK → Prop} {tip : TIp} {tset : TSet} {op : Operator} {tpos : Pos} (ho : PE X o to) (hi : PE X i ti) (hg : PGet X tget) (he : PE X e te) (hp : PIp X op tip) (hs : PSet X tset)
    (ha : ∀ ov iv new, augStore i ov iv new = (do holding [new, ov, iv] (setItem ov iv new); release [new, ov, iv] []; pure .next) := by intros; rfl) : PS X (.AugAssign (.Subscript o i tpos) op e pos) (tAugS to ti te tget tip tset) := by
  intro pins s σ H D I h
  refine wpAny_AugAssign_SubscriptAny (thn (ho pins s σ H _ I h) fun ov s1 ⟨x1, H1, I1, r1, q1⟩ => ?_) ha
  refine thn (hi pins s1 σ H1 _ I1 q1) fun iv s2 ⟨x2, H2, I2, r2, q2⟩ => ?_
  refine thn (hg pins s2 σ H2 x1 x2 ov iv _ I2 r1 r2 q2) fun old s3 ⟨x3, H3, I3, r3, q3⟩ => ?_
  refine thn (he pins s3 σ H3 _ I3 q3) fun v s4 ⟨x4, H4, I4, r4, q4⟩ => ?_
  refine thn (hp pins s4 σ H4 x3 x4 old v _ I4 r3 r4 q4) fun new s5 ⟨x5, H5, I5, r5, q5⟩ => ?_
  exact thn (hs pins s5 σ H5 x1 x2 x5 ov iv new _ I5 r1 r2 r5 q5) fun _ s6 ⟨H6, I6, q6⟩ => ⟨σ, H6, I6, q6⟩
def ipI (f : Int → Int → Int) : TIp := fun x y H Q => ∃ i j, x = .int i ∧ y = .int j ∧ Q (.int (f i j)) H
theorem ip_add : PIp X .Add (ipI fun i j => i + j) := by
  intro pins s σ H x y v u Q I r1 r2 h
  obtain ⟨i, j, e1, e2, q⟩ := h
  subst e1; subst e2
  obtain ⟨t, rfl⟩ := r1
  obtain ⟨t', rfl⟩ := r2
  exact iadd_int ⟨.int _, H, I.tok _, ⟨_, rfl⟩, q⟩
end
section
variable {X : Cx} {pos : Pos}
def tWhile (c : TT) (tb : TS) : TS := fun D σ H => ∃ W : Nat → St → Hp → Prop, (∃ m, W m σ H) ∧ ∀ m σ H, W m σ H →
  c σ H fun b H1 => if b = true then ∃ N : St → Hp → Prop, (∀ σ' H', N σ' H' → ∃ m', m' < m ∧ W m' σ' H') ∧ tb { D with nx := N, ct := N, bk := D.nx } σ H1 else D.nx σ H1
theorem ps_while {c : Expr} {body : List Stmt} {tc : TT} {tb : TS} (hp : PassesOwn (model X.prog X.w) X.A X.env X.xe) (hc : PT X c tc) (hb : PSs X body tb) : PS X (.While c body [] pos) (tWhile tc tb) := by
  intro pins s σ H D I h
  obtain ⟨W, ⟨m0, w0⟩, turn⟩ := h
  refine wpAny_While (codeAny_whileLoop (fun n s' => ∃ σ' H', Inv X pins σ' H' s' ∧ W n σ' H') ?_ m0 ⟨σ, H, I, w0⟩)
  rintro n s1 ⟨σ1, H1, I1, w1⟩
  refine wpAny_passesOwn hp (thn (hc pins s1 σ1 H1 _ I1 (turn n σ1 H1 w1)) fun b s2 ⟨H2, I2, q2⟩ => ?_)
  cases b with
  | true =>
    obtain ⟨N, hN, q2⟩ := q2
    rw [if_pos rfl]
    refine wpAny_passesOwn hp (thn (hb pins s2 σ1 H2 _ I2 q2) fun f s3 q3 => ?_)
    cases f with
    | next =>
      obtain ⟨σ3, H3, I3, n3⟩ := q3
      obtain ⟨m', hm, w3⟩ := hN σ3 H3 n3
      exact ⟨m', hm, σ3, H3, I3, w3⟩
    | cont =>
      obtain ⟨σ3, H3, I3, n3⟩ := q3
      obtain ⟨m', hm, w3⟩ := hN σ3 H3 n3
      exact ⟨m', hm, σ3, H3, I3, w3⟩
    | brk => exact q3
    | ret v => exact q3
  | false =>
    rw [if_neg Bool.false_ne_true]
    exact wpAny_execs_nil ⟨σ1, H2, I2, q2⟩
end
structure It where
  go : Nat → Hp → Prop
  yld : Nat → Hp → V → Hp → Prop
  stop : Nat → Hp → Prop
def FpOk (X : Cx) (pins : List (Addr × Obj)) (H : Hp) (b : Addr) : Prop :=
  H b = none ∧ b ≠ X.env.locals ∧ b ∉ X.fs ∧ (b ∈ X.ex ∨ X.s₀.heap.objs.size ≤ b) ∧ (∀ x c, X.env.cells.lookup x = some c → c ≠ b) ∧ ∀ p ∈ X.pn ++ pins, p.1 ≠ b
theorem Inv.fpOk {X : Cx} {pins : List (Addr × Obj)} {σ : St} {H H' : Hp} {s : Shared} {b : Addr} (I : Inv X pins σ H s) (hb : s.heap.objs.size ≤ b) (hn : H' b = none) : FpOk X pins H' b := by
  refine ⟨hn, Nat.ne_of_gt (Nat.lt_of_lt_of_le I.lt hb), I.nofs hb, .inr (Nat.le_trans I.sz hb), fun x c e z => ?_, fun p hp z => ?_⟩
  · obtain ⟨v, q⟩ := I.cell x c e
    exact absurd (Nat.lt_of_lt_of_le q.lt (by rw [z]; exact hb)) (Nat.lt_irrefl _)
  · exact absurd (Nat.lt_of_lt_of_le (Heap.lt_size (I.pin p hp).1) (by rw [z]; exact hb)) (Nat.lt_irrefl _)
structure Turn (P : Program) (w : World) (K : PySem.W.Frag) (tg : Expr) (J : It) (fp : List Addr) (it : Addr) (tn : Nat → Heap → Prop) : Prop where
  mem : it ∈ fp
  obj : ∀ i h, tn i h → ∀ b ∈ fp, ∃ o, h.get? b = some o ∧ ∀ v, o.data ≠ .cell v
  keep : ∀ i h h', tn i h → (∀ b ∈ fp, ∀ o, h.get? b = some o → h'.get? b = some o) → tn i h'
  item : ∀ (X : Cx), X.prog = P → X.w = w → X.K = K → X.calm = true → ∀ (i : Nat) (pins : List (Addr × Obj)) (s : Shared) (σ : St) (H : Hp) (E : Value → Shared → Prop), Inv X pins σ H s → (∀ b ∈ fp, FpOk X pins H b) → tn i s.heap → J.go i H →
    wpAny (model P w) X.A (pyNext (.ref it)) (fun r s1 => ∃ u, r = some u ∧
      wpAny (model P w) X.A (letOwnedTupleGo tg (.ref it) u) (fun _ s2 => ∃ x H', Inv X pins σ H' s2 ∧ RelV x u ∧ J.yld i H x H' ∧ tn (i + 1) s2.heap ∧ ∀ b ∈ fp, H' b = none) E s1) E s
  done : ∀ (X : Cx), X.prog = P → X.w = w → X.K = K → X.calm = true → ∀ (i : Nat) (pins : List (Addr × Obj)) (s : Shared) (σ : St) (H : Hp) (E : Value → Shared → Prop), Inv X pins σ H s → (∀ b ∈ fp, FpOk X pins H b) → tn i s.heap → J.stop i H →
    wpAny (model P w) X.A (pyNext (.ref it)) (fun r s1 => r = none ∧ Inv X pins σ H s1) E s
  self : ∀ (A : Around) (i : Nat) (s : Shared) (Q : Value → Shared → Prop) (E : Value → Shared → Prop), tn i s.heap → Q (.ref it) s → wpAny (model P w) A (pyIter (.ref it)) Q E s
abbrev TI := St → Hp → (It → Hp → Prop) → Prop
def PIE (X : Cx) (pins : List (Addr × Obj)) (σ : St) (tg : Expr) (R : It → Hp → Prop) (itv : Value) (s2 : Shared) : Prop :=
  ∃ (it : Addr) (fp : List Addr) (tn : Nat → Heap → Prop) (J : It) (H' : Hp), itv = .ref it ∧ Inv X pins σ H' s2 ∧ Turn X.prog X.w X.K tg J fp it tn ∧ tn 0 s2.heap ∧ (∀ b ∈ fp, FpOk X pins H' b) ∧ R J H'
def PI (X : Cx) (tg iter : Expr) (wi : TI) : Prop :=
  ∀ (pins : List (Addr × Obj)) (s : Shared) (σ : St) (H : Hp) (R : It → Hp → Prop), Inv X pins σ H s → wi σ H R →
    wpAny (model X.prog X.w) X.A (eval iter X.env) (fun v s1 => wpAny (model X.prog X.w) X.A (pyIter v) (PIE X pins σ tg R) X.xe s1) X.xe s
theorem go_of {M : Model} {A : Around} {E : Value → Shared → Prop} {s : Shared} {tg : Expr} {it : Addr} {u : Value} {o : Obj} {n : String} {vs : Array Value} {Q : Unit → Shared → Prop} (ho : s.heap.get? it = some o) (hc : o.cls = .type n) (hd : o.data = .fields vs)
    (hn : ["enumerate", "zip", "dict_itemiterator", "dict_reverseitemiterator", "odict_iterator", "itertools.zip_longest", "itertools.pairwise"].contains n = false) (hQ : Q () s) : wpAny M A (letOwnedTupleGo tg (.ref it) u) Q E s := by
  unfold letOwnedTupleGo
  cases tg <;> first
    | exact wpAny_pure hQ
    | (cases u <;> first
        | exact wpAny_pure hQ
        | (refine wpAny_bind (wpAny_load ho ?_)
           rw [hc, hd]
           show wpAny M A (if (["enumerate", "zip", "dict_itemiterator", "dict_reverseitemiterator", "odict_iterator", "itertools.zip_longest", "itertools.pairwise"].contains n && vs[0]? == some (rawInt _)) = true then _ else _) Q E s
           rw [if_neg (by intro h; rw [hn, Bool.false_and] at h; cases h)]
           exact wpAny_pure hQ))
def Itl (K : PySem.W.Frag) (a : Addr) : It :=
  ⟨fun i H => ∃ xs x, SqL K H a xs ∧ xs[i]? = some x, fun i H x H' => H' = H ∧ ∀ xs, SqL K H a xs → xs[i]? = some x, fun i H => ∃ xs, SqL K H a xs ∧ xs.length ≤ i⟩
def Itt (K : PySem.W.Frag) (a : Addr) : It :=
  ⟨fun i H => ∃ xs x, SqT K H a xs ∧ xs[i]? = some x, fun i H x H' => H' = H ∧ ∀ xs, SqT K H a xs → xs[i]? = some x, fun i H => ∃ xs, SqT K H a xs ∧ xs.length ≤ i⟩
def Itr (lo : Int) (n : Nat) : It := ⟨fun i _ => i < n, fun i H x H' => H' = H ∧ x = .int (lo + i), fun i _ => n ≤ i⟩
theorem turn_list {P : Program} {w : World} {K : PySem.W.Frag} {tg : Expr} (a it : Addr) : Turn P w K tg (Itl K a) [it] it (fun i h => h.IsListIter it a i) where
  mem := by simp
  obj := fun i h st b hb => by
    have e : b = it := by simpa using hb
    subst e
    obtain ⟨o, e, c, d⟩ := st
    exact ⟨o, e, fun v z => by rw [d] at z; cases z⟩
  keep := fun i h h' st k => st.at fun o e => k it (by simp) o e
  item := by
    intro X hP hw hK hc i pins s σ H E I hf st hg
    subst hP hw hK
    obtain ⟨xs, x, hq, hx⟩ := hg
    obtain ⟨its, rv, p, hz⟩ := I.list hq
    obtain ⟨u, hu, ru⟩ := rv.get hx
    obtain ⟨f0, f1, f2, f3, f4, f5⟩ := hf it (by simp)
    refine wpAny_pyNext_list_item st p.isList (x := u) (by simpa using hu) fun h' st' sb => ?_
    have I1 : Inv X pins σ H { s with heap := h' } := I.turned (t' := s.toks) (fun b o hb e => (sb.2 b hb).trans e) f0 f1 f3 f4 f5
    obtain ⟨o, e, c, d⟩ := id st'
    exact ⟨u, rfl, go_of (s := { s with heap := h' }) e c d (by decide) ⟨x, H, I1, ru, ⟨rfl, fun ys hy => by rw [I.list_inj hy hq]; exact hx⟩, st', fun b hb => (hf b hb).1⟩⟩
  done := by
    intro X hP hw hK hc i pins s σ H E I hf st hg
    subst hP hw hK
    obtain ⟨xs, hq, hx⟩ := hg
    obtain ⟨its, rv, p, hz⟩ := I.list hq
    obtain ⟨f0, f1, f2, f3, f4, f5⟩ := hf it (by simp)
    have hl := rv.length
    exact wpAny_pyNext_list_end (I.ok.hd hc) st p.isList (by simp; omega) fun h' eb => ⟨rfl, I.turned (t' := s.toks) (fun b o hb e => eb b o hb e) f0 f1 f3 f4 f5⟩
  self := fun _ _ _ _ _ st h => wpAny_pyIter_listiter st h
theorem turn_tuple {P : Program} {w : World} {K : PySem.W.Frag} {tg : Expr} (a it : Addr) : Turn P w K tg (Itt K a) [it] it (fun i h => h.IsTupleIter it a i) where
  mem := by simp
  obj := fun i h st b hb => by
    have e : b = it := by simpa using hb
    subst e
    obtain ⟨o, e, c, d⟩ := st
    exact ⟨o, e, fun v z => by rw [d] at z; cases z⟩
  keep := fun i h h' st k => st.at fun o e => k it (by simp) o e
  item := by
    intro X hP hw hK hc i pins s σ H E I hf st hg
    subst hP hw hK
    obtain ⟨xs, x, hq, hx⟩ := hg
    obtain ⟨its, rv, p, hz⟩ := I.tuple hq
    obtain ⟨u, hu, ru⟩ := rv.get hx
    obtain ⟨f0, f1, f2, f3, f4, f5⟩ := hf it (by simp)
    refine wpAny_pyNext_tuple_item st (show s.heap.IsTuple a its.toArray from p) (x := u) (by simpa using hu) fun h' st' sb => ?_
    have I1 : Inv X pins σ H { s with heap := h' } := I.turned (t' := s.toks) (fun b o hb e => (sb.2 b hb).trans e) f0 f1 f3 f4 f5
    obtain ⟨o, e, c, d⟩ := id st'
    exact ⟨u, rfl, go_of (s := { s with heap := h' }) e c d (by decide) ⟨x, H, I1, ru, ⟨rfl, fun ys hy => by rw [I.tuple_inj hy hq]; exact hx⟩, st', fun b hb => (hf b hb).1⟩⟩
  done := by
    intro X hP hw hK hc i pins s σ H E I hf st hg
    subst hP hw hK
    obtain ⟨xs, hq, hx⟩ := hg
    obtain ⟨its, rv, p, hz⟩ := I.tuple hq
    obtain ⟨f0, f1, f2, f3, f4, f5⟩ := hf it (by simp)
    have hl := rv.length
    exact wpAny_pyNext_tuple_end (I.ok.hd hc) st (show s.heap.IsTuple a its.toArray from p) (by simp; omega) fun h' eb => ⟨rfl, I.turned (t' := s.toks) (fun b o hb e => eb b o hb e) f0 f1 f3 f4 f5⟩
  self := fun _ _ _ _ _ st h => wpAny_pyIter_tupleiter st h
theorem turn_range {P : Program} {w : World} {K : PySem.W.Frag} {tg : Expr} (it : Addr) (lo : Int) (n : Nat) : Turn P w K tg (Itr lo n) [it] it (fun i h => IsRangeIter h it (lo + (i : Nat) * 1) ((n : Int) - (i : Nat)) 1) where
  mem := by simp
  obj := fun i h st b hb => by
    have e : b = it := by simpa using hb
    subst e
    exact ⟨_, st, fun v z => by
      have z' : Data.fields _ = Data.cell v := z
      cases z'⟩
  keep := fun i h h' st k => k it (by simp) _ st
  item := by
    intro X hP hw hK hc i pins s σ H E I hf st hg
    subst hP hw hK
    obtain ⟨f0, f1, f2, f3, f4, f5⟩ := hf it (by simp)
    have W := Walks.range (prog := X.prog) (w := X.w) (I.ok.hd hc) it lo 1 n
    refine W.item i s _ _ hg st fun v h' tk hv st' kk => ?_
    obtain ⟨t, rfl⟩ := hv
    have I1 : Inv X pins σ H { s with heap := h', toks := tk } := I.turned (fun b o hb e => kk b o (by simpa using hb) e) f0 f1 f3 f4 f5
    refine ⟨_, rfl, go_of (s := { s with heap := h', toks := tk }) (n := "range_iterator") st' rfl rfl (by decide) ⟨.int (lo + i), H, I1, ⟨t, ?_⟩, ⟨rfl, rfl⟩, st', fun b hb => (hf b hb).1⟩⟩
    rw [Int.mul_one]
  done := by
    intro X hP hw hK hc i pins s σ H E I hf st hg
    subst hP hw hK
    obtain ⟨f0, f1, f2, f3, f4, f5⟩ := hf it (by simp)
    exact wpAny_pyNext_range_end (I.ok.hd hc) st (by have : n ≤ i := hg; omega) fun h' eb => ⟨rfl, I.turned (t' := s.toks) (fun b o hb e => eb b o hb e) f0 f1 f3 f4 f5⟩
  self := fun _ _ _ _ _ st h => wpAny_pyIter_rangeiter st h
end L2
namespace L2
open PySem PySem.Spec PyProof.Rows
section
variable {X : Cx} {tg : Expr}
def iList (K : PySem.W.Frag) (tl : TE) : TI := fun σ H R => tl σ H fun x H1 => ∃ a, x = .ref a ∧ (∃ xs, SqL K H1 a xs) ∧ R (Itl K a) H1
def iTup (K : PySem.W.Frag) (tl : TE) : TI := fun σ H R => tl σ H fun x H1 => ∃ a, x = .ref a ∧ (∃ xs, SqT K H1 a xs) ∧ R (Itt K a) H1
theorem pi_list {l : Expr} {tl : TE} (hl : PE X l tl) : PI X tg l (iList X.K tl) := by
  intro pins s σ H R I h
  refine thn (hl pins s σ H _ I h) fun v s1 ⟨x, H1, I1, r1, q1⟩ => ?_
  obtain ⟨a, e, ⟨xs, hq⟩, q⟩ := q1
  subst e
  cases r1
  obtain ⟨its, rv, p, hz⟩ := I1.list hq
  refine wpAny_pyIter_list p.isList ?_
  refine ⟨s1.heap.objs.size, [s1.heap.objs.size], _, _, H1, rfl, I1.kept (t' := s1.toks) fun b o e => Heap.get?_push_of_some _ e, turn_list a _, ⟨_, Heap.get?_push_size _ rfl, rfl, rfl⟩, fun b hb => ?_, q⟩
  have e : b = s1.heap.objs.size := by simpa using hb
  subst e
  exact I1.fpOk (Nat.le_refl _) (I1.hok.fresh (Nat.le_refl _))
theorem pi_tup {l : Expr} {tl : TE} (hl : PE X l tl) : PI X tg l (iTup X.K tl) := by
  intro pins s σ H R I h
  refine thn (hl pins s σ H _ I h) fun v s1 ⟨x, H1, I1, r1, q1⟩ => ?_
  obtain ⟨a, e, ⟨xs, hq⟩, q⟩ := q1
  subst e
  cases r1
  obtain ⟨its, rv, p, hz⟩ := I1.tuple hq
  refine wpAny_pyIter_tuple (show s1.heap.IsTuple a its.toArray from p) ?_
  refine ⟨s1.heap.objs.size, [s1.heap.objs.size], _, _, H1, rfl, I1.kept (t' := s1.toks) fun b o e => Heap.get?_push_of_some _ e, turn_tuple a _, ⟨_, Heap.get?_push_size _ rfl, rfl, rfl⟩, fun b hb => ?_, q⟩
  have e : b = s1.heap.objs.size := by simpa using hb
  subst e
  exact I1.fpOk (Nat.le_refl _) (I1.hok.fresh (Nat.le_refl _))
theorem range_it {pins : List (Addr × Obj)} {σ : St} {H : Hp} {s : Shared} {R : It → Hp → Prop} {E : Value → Shared → Prop} {lo hi : Int} {t u v : Tok} {tk : Nat} (I : Inv X pins σ H s) (h1 : -(2 ^ 62) ≤ lo) (h2 : lo < 2 ^ 62) (h3 : -(2 ^ 62) ≤ hi) (h4 : hi < 2 ^ 62)
    (q : R (Itr lo (hi - lo).toNat) H) : wpAny (model X.prog X.w) X.A (pyIter (.ref s.heap.objs.size)) (PIE X pins σ tg R) E { s with heap := s.heap.push { cls := .type "range", data := .fields #[.int lo t, .int hi u, .int 1 v] }, toks := tk } := by
  refine wpAny_pyIter_range (IsRange.new ..) (small_one h1 h2 h3 h4) ?_
  have I1 : Inv X pins σ H { s with heap := s.heap.push { cls := .type "range", data := .fields #[.int lo t, .int hi u, .int 1 v] }, toks := tk } := I.kept fun b o e => Heap.get?_push_of_some _ e
  refine ⟨(s.heap.push { cls := .type "range", data := .fields #[.int lo t, .int hi u, .int 1 v] }).objs.size, [(s.heap.push { cls := .type "range", data := .fields #[.int lo t, .int hi u, .int 1 v] }).objs.size], _, _, H, rfl,
    I1.kept (t' := tk) fun b o e => Heap.get?_push_of_some _ e, turn_range _ lo (hi - lo).toNat, ?_, fun b hb => ?_, q⟩
  · have e1 : lo + ((0 : Nat) : Int) * 1 = lo := by simp
    have e2 : (((hi - lo).toNat : Nat) : Int) - ((0 : Nat) : Int) = Builtin.Range.rangeSize lo hi 1 := by rw [rangeSize_one]; split <;> omega
    show IsRangeIter _ _ (lo + ((0 : Nat) : Int) * 1) ((((hi - lo).toNat : Nat) : Int) - ((0 : Nat) : Int)) 1
    rw [e1, e2]
    exact Heap.get?_push_size _ rfl
  · have e : b = (s.heap.push { cls := .type "range", data := .fields #[.int lo t, .int hi u, .int 1 v] }).objs.size := by simpa using hb
    subst e
    exact I1.fpOk (Nat.le_refl _) (I1.hok.fresh (Nat.le_refl _))
def iRng1 (ta : TA) : TI := fun σ H R => ta σ H fun vs H1 => ∃ j : Int, vs = [.int j] ∧ -(2 ^ 62) ≤ j ∧ j < 2 ^ 62 ∧ R (Itr 0 j.toNat) H1
theorem pi_range1 {a : Expr} {ta : TA} {p pos : Pos} (hg : Gl X "range") (hm : X.mg "range" = none) (ha : PA X [a] ta) (hs : starEach [a] X.env = [(false, eval a X.env)] := by rfl) : PI X tg (.Call (.Name "range" p) [a] [] pos) (iRng1 ta) := by
  intro pins s σ H R I h
  refine Call_ (ld_blt I hg hm boot_range (PyProof.Rows.callWith_type1 (thn (ha pos pins s σ H _ I h) fun us s1 ⟨vs, H1, I1, r1, q1⟩ => ?_) hs rfl))
  obtain ⟨j, e, q1, q2, q⟩ := q1
  subst e
  cases r1 with
  | cons r rr =>
    cases rr
    obtain ⟨t, rfl⟩ := r
    exact call_range_1 (range_it I1 (by omega) (by omega) q1 q2 (by simpa using q))
def tFor (wi : TI) (g : TG) (tb : TS) : TS := fun D σ H => wi σ H fun J H1 => ∃ W : Nat → Nat → St → Hp → Prop, (∃ m, W 0 m σ H1) ∧ ∀ i m σ H, W i m σ H →
  (J.stop i H ∧ D.nx σ H) ∨ (J.go i H ∧ ∃ N : St → Hp → Prop, (∀ σ' H', N σ' H' → ∃ m', m' < m ∧ W (i + 1) m' σ' H') ∧ ∀ x H', J.yld i H x H' → g x σ H' fun σ2 H2 => tb { D with nx := N, ct := N, bk := D.nx } σ2 H2)
def pinsAt (fp : List Addr) (h : Heap) : List (Addr × Obj) := fp.filterMap fun b => (h.get? b).map fun o => (b, o)
theorem mem_pinsAt {fp : List Addr} {h : Heap} {b : Addr} {o : Obj} (hb : b ∈ fp) (e : h.get? b = some o) : (b, o) ∈ pinsAt fp h := List.mem_filterMap.mpr ⟨b, hb, by rw [e]; rfl⟩
theorem of_pinsAt {fp : List Addr} {h : Heap} {p : Addr × Obj} (hp : p ∈ pinsAt fp h) : p.1 ∈ fp ∧ h.get? p.1 = some p.2 := by
  obtain ⟨b, hb, e⟩ := List.mem_filterMap.mp hp
  cases q : h.get? b with
  | none => rw [q] at e; cases e
  | some o =>
    rw [q] at e
    have e' : (b, o) = p := Option.some.inj e
    subst e'
    exact ⟨hb, q⟩
theorem Inv.pinned {pins : List (Addr × Obj)} {σ : St} {H : Hp} {s : Shared} {fp : List Addr} (I : Inv X pins σ H s) (hf : ∀ b ∈ fp, FpOk X pins H b) (ho : ∀ b ∈ fp, ∃ o, s.heap.get? b = some o ∧ ∀ v, o.data ≠ .cell v) : Inv X (pins ++ pinsAt fp s.heap) σ H s :=
  I.pins_of fun p hp => (List.mem_append.mp hp).elim (fun z => I.pin p (List.mem_append_right _ z)) fun z => by
    obtain ⟨hb, e⟩ := of_pinsAt z
    obtain ⟨f0, f1, f2, _⟩ := hf p.1 hb
    obtain ⟨o, e', d⟩ := ho p.1 hb
    rw [e] at e'; cases e'
    exact ⟨e, f0, f1, f2, d⟩
theorem Inv.unpinned {pins pl : List (Addr × Obj)} {σ : St} {H : Hp} {s : Shared} (I : Inv X (pins ++ pl) σ H s) : Inv X pins σ H s := I.pins_of fun p hp => I.pin p (List.mem_append_right _ (List.mem_append_left _ hp))
theorem ps_for {iter : Expr} {body : List Stmt} {wi : TI} {g : TG} {tb : TS} {pos : Pos} (hp : PassesOwn (model X.prog X.w) X.A X.env X.xe) (hc : X.calm = true) (hi : PI X tg iter wi) (hg : PG X tg g) (hb : PSs X body tb)
    (hs : ∀ x, foldedSetIterable iter X.env x = pure x := by intro _; rfl) : PS X (.For tg iter body [] pos) (tFor wi g tb) := by
  intro pins s σ H D I h
  refine wpAny_For (thn (hi pins s σ H _ I h) fun v s1 h1 => thn h1 fun itv s2 h2 => ?_) hs
  obtain ⟨it, fp, tn, J, H2, e, I2, T, st2, f2, W, ⟨m0, w0⟩, turn⟩ := h2
  subst e
  have stat : ∀ {H' : Hp}, (∀ b ∈ fp, H' b = none) → ∀ b ∈ fp, FpOk X pins H' b := fun hn b hb => ⟨hn b hb, (f2 b hb).2⟩
  refine codeAny_forLoop_any (fun n s' => ∃ i σ' H', Inv X pins σ' H' s' ∧ tn i s'.heap ∧ (∀ b ∈ fp, H' b = none) ∧ W i n σ' H') ?_ m0 ⟨0, σ, H2, I2, st2, fun b hb => (f2 b hb).1, w0⟩
  rintro n s3 ⟨i, σ3, H3, I3, st3, fr3, w3⟩
  rcases turn i n σ3 H3 w3 with ⟨stop, qn⟩ | ⟨go, N, hN, step⟩
  · refine wpAny_passesOwn hp (thn (T.done X rfl rfl rfl hc i pins s3 σ3 H3 X.xe I3 (stat fr3) st3 stop) fun r s4 ⟨hr, I4⟩ => ?_)
    subst hr
    exact wpAny_execs_nil ⟨σ3, H3, I4, qn⟩
  · refine wpAny_passesOwn hp (thn (T.item X rfl rfl rfl hc i pins s3 σ3 H3 X.xe I3 (stat fr3) st3 go) fun r s4 ⟨u, hr, h4⟩ => ?_)
    subst hr
    refine wpAny_passesOwn hp (thn h4 fun _ s5 ⟨x, H5, I5, r5, y5, st5, fr5⟩ => ?_)
    have I5' := I5.pinned (stat fr5) (T.obj _ _ st5)
    refine wpAny_passesOwn hp (thn (hg _ s5 σ3 H5 x u _ I5' r5 (step x H5 y5)) fun _ s6 ⟨σ6, H6, I6, q6⟩ => ?_)
    refine wpAny_passesOwn hp (thn (hb _ s6 σ6 H6 _ I6 q6) fun f s7 q7 => ?_)
    have again : ∀ {σ7 : St} {H7 : Hp}, Inv X (pins ++ pinsAt fp s5.heap) σ7 H7 s7 → N σ7 H7 → ∃ m, m < n ∧ ∃ i σ' H', Inv X pins σ' H' s7 ∧ tn i s7.heap ∧ (∀ b ∈ fp, H' b = none) ∧ W i m σ' H' := fun {σ7 H7} I7 n7 => by
      obtain ⟨m', hm, w7⟩ := hN σ7 H7 n7
      refine ⟨m', hm, i + 1, σ7, H7, I7.unpinned, T.keep _ _ _ st5 fun b hb o e => (I7.pin (b, o) (List.mem_append_right _ (List.mem_append_right _ (mem_pinsAt hb e)))).1, fun b hb => ?_, w7⟩
      obtain ⟨o, e, d⟩ := T.obj _ _ st5 b hb
      exact (I7.pin (b, o) (List.mem_append_right _ (List.mem_append_right _ (mem_pinsAt hb e)))).2.1
    cases f with
    | next => obtain ⟨σ7, H7, I7, n7⟩ := q7; exact again I7 n7
    | cont => obtain ⟨σ7, H7, I7, n7⟩ := q7; exact again I7 n7
    | brk => obtain ⟨σ7, H7, I7, q7⟩ := q7; exact ⟨σ7, H7, I7.unpinned, q7⟩
    | ret v => obtain ⟨x7, σ7, H7, I7, r7, q7⟩ := q7; exact ⟨x7, σ7, H7, I7.unpinned, r7, q7⟩
end
theorem for_list {K : PySem.W.Frag} {a : Addr} {xs : List V} {g : TG} {tb : TS} {D : Ends} {σ : St} {H : Hp} (Pv : Nat → St → Hp → Prop) (h0 : Pv 0 σ H) (hl : ∀ i σ H, i ≤ xs.length → Pv i σ H → SqL K H a xs)
    (hs : ∀ i x σ H, xs[i]? = some x → Pv i σ H → g x σ H fun σ2 H2 => tb { D with nx := Pv (i + 1), ct := Pv (i + 1), bk := D.nx } σ2 H2) (hd : ∀ σ H, Pv xs.length σ H → D.nx σ H) :
    ∃ W : Nat → Nat → St → Hp → Prop, (∃ m, W 0 m σ H) ∧ ∀ i m σ H, W i m σ H →
      ((Itl K a).stop i H ∧ D.nx σ H) ∨ ((Itl K a).go i H ∧ ∃ N : St → Hp → Prop, (∀ σ' H', N σ' H' → ∃ m', m' < m ∧ W (i + 1) m' σ' H') ∧ ∀ x H', (Itl K a).yld i H x H' → g x σ H' fun σ2 H2 => tb { D with nx := N, ct := N, bk := D.nx } σ2 H2) := by
  refine ⟨fun i m σ H => m = xs.length - i ∧ i ≤ xs.length ∧ Pv i σ H, ⟨xs.length, by simp, Nat.zero_le _, h0⟩, ?_⟩
  rintro i m σ H ⟨rfl, hi, p⟩
  have q := hl i σ H hi p
  by_cases hlt : i < xs.length
  · refine .inr ⟨⟨xs, xs[i], q, by simp [hlt]⟩, Pv (i + 1), fun σ' H' p' => ⟨xs.length - (i + 1), by omega, rfl, hlt, p'⟩, fun x H' y => ?_⟩
    obtain ⟨e, y⟩ := y
    subst e
    exact hs i x σ _ (y xs q) p
  · have e : i = xs.length := by omega
    subst e
    exact .inl ⟨⟨xs, q, Nat.le_refl _⟩, hd σ H p⟩
theorem for_tup {K : PySem.W.Frag} {a : Addr} {xs : List V} {g : TG} {tb : TS} {D : Ends} {σ : St} {H : Hp} (Pv : Nat → St → Hp → Prop) (h0 : Pv 0 σ H) (hl : ∀ i σ H, i ≤ xs.length → Pv i σ H → SqT K H a xs)
    (hs : ∀ i x σ H, xs[i]? = some x → Pv i σ H → g x σ H fun σ2 H2 => tb { D with nx := Pv (i + 1), ct := Pv (i + 1), bk := D.nx } σ2 H2) (hd : ∀ σ H, Pv xs.length σ H → D.nx σ H) :
    ∃ W : Nat → Nat → St → Hp → Prop, (∃ m, W 0 m σ H) ∧ ∀ i m σ H, W i m σ H →
      ((Itt K a).stop i H ∧ D.nx σ H) ∨ ((Itt K a).go i H ∧ ∃ N : St → Hp → Prop, (∀ σ' H', N σ' H' → ∃ m', m' < m ∧ W (i + 1) m' σ' H') ∧ ∀ x H', (Itt K a).yld i H x H' → g x σ H' fun σ2 H2 => tb { D with nx := N, ct := N, bk := D.nx } σ2 H2) := by
  refine ⟨fun i m σ H => m = xs.length - i ∧ i ≤ xs.length ∧ Pv i σ H, ⟨xs.length, by simp, Nat.zero_le _, h0⟩, ?_⟩
  rintro i m σ H ⟨rfl, hi, p⟩
  have q := hl i σ H hi p
  by_cases hlt : i < xs.length
  · refine .inr ⟨⟨xs, xs[i], q, by simp [hlt]⟩, Pv (i + 1), fun σ' H' p' => ⟨xs.length - (i + 1), by omega, rfl, hlt, p'⟩, fun x H' y => ?_⟩
    obtain ⟨e, y⟩ := y
    subst e
    exact hs i x σ _ (y xs q) p
  · have e : i = xs.length := by omega
    subst e
    exact .inl ⟨⟨xs, q, Nat.le_refl _⟩, hd σ H p⟩
theorem for_range {lo : Int} {n : Nat} {g : TG} {tb : TS} {D : Ends} {σ : St} {H : Hp} (Pv : Nat → St → Hp → Prop) (h0 : Pv 0 σ H)
    (hs : ∀ i σ H, i < n → Pv i σ H → g (.int (lo + i)) σ H fun σ2 H2 => tb { D with nx := Pv (i + 1), ct := Pv (i + 1), bk := D.nx } σ2 H2) (hd : ∀ σ H, Pv n σ H → D.nx σ H) :
    ∃ W : Nat → Nat → St → Hp → Prop, (∃ m, W 0 m σ H) ∧ ∀ i m σ H, W i m σ H →
      ((Itr lo n).stop i H ∧ D.nx σ H) ∨ ((Itr lo n).go i H ∧ ∃ N : St → Hp → Prop, (∀ σ' H', N σ' H' → ∃ m', m' < m ∧ W (i + 1) m' σ' H') ∧ ∀ x H', (Itr lo n).yld i H x H' → g x σ H' fun σ2 H2 => tb { D with nx := N, ct := N, bk := D.nx } σ2 H2) := by
  refine ⟨fun i m σ H => m = n - i ∧ i ≤ n ∧ Pv i σ H, ⟨n, by simp, Nat.zero_le _, h0⟩, ?_⟩
  rintro i m σ H ⟨rfl, hi, p⟩
  by_cases hlt : i < n
  · refine .inr ⟨hlt, Pv (i + 1), fun σ' H' p' => ⟨n - (i + 1), by omega, rfl, hlt, p'⟩, fun x H' y => ?_⟩
    obtain ⟨e, y⟩ := y
    subst e y
    exact hs i σ _ hlt p
  · have e : i = n := by omega
    subst e
    exact .inl ⟨Nat.le_refl _, hd σ H p⟩
end L2
namespace L2
open PySem PySem.Spec PyProof.Rows
abbrev R2 := V → V → Hp → VK → Prop
def OpR (X : Cx) (f : Value → Value → Sem Value) (r : R2) : Prop :=
  ∀ (pins : List (Addr × Obj)) (s : Shared) (σ : St) (H : Hp) (x y : V) (v u : Value) (Q : VK), Inv X pins σ H s → RelV x v → RelV y u → r x y H Q →
    wpAny (model X.prog X.w) X.A (f v u) (EP X pins σ Q) X.xe s
def UnR (X : Cx) (f : Value → Sem Value) (r : V → Hp → VK → Prop) : Prop :=
  ∀ (pins : List (Addr × Obj)) (s : Shared) (σ : St) (H : Hp) (x : V) (v : Value) (Q : VK), Inv X pins σ H s → RelV x v → r x H Q →
    wpAny (model X.prog X.w) X.A (f v) (EP X pins σ Q) X.xe s
def CallR (X : Cx) (f : Value) (r : List V → Hp → VK → Prop) : Prop :=
  ∀ (pins : List (Addr × Obj)) (s : Shared) (σ : St) (H : Hp) (xs : List V) (us : List Value) (Q : VK), Inv X pins σ H s → Vals xs us → r xs H Q →
    wpAny (model X.prog X.w) X.A (call f us) (EP X pins σ Q) X.xe s
def TruR (X : Cx) (r : V → Hp → (Bool → Hp → Prop) → Prop) : Prop :=
  ∀ (pins : List (Addr × Obj)) (s : Shared) (σ : St) (H : Hp) (x : V) (v : Value) (Q : Bool → Hp → Prop), Inv X pins σ H s → RelV x v → r x H Q →
    wpAny (model X.prog X.w) X.A (truthy v) (TP X pins σ Q) X.xe s
def tOp (r : R2) (ta tb : TE) : TE := fun σ H Q => ta σ H fun x H1 => tb σ H1 fun y H2 => r x y H2 Q
def tUn (r : V → Hp → VK → Prop) (ta : TE) : TE := fun σ H Q => ta σ H fun x H1 => r x H1 Q
def rI (C : Int → Int → Prop) (g : Int → Int → V) : R2 := fun x y H Q => ∃ i j, x = .int i ∧ y = .int j ∧ C i j ∧ Q (g i j) H
def rI0 (g : Int → Int → V) : R2 := fun x y H Q => ∃ i j, x = .int i ∧ y = .int j ∧ Q (g i j) H
def rU (g : Int → V) : V → Hp → VK → Prop := fun x H Q => ∃ i, x = .int i ∧ Q (g i) H
section
variable {X : Cx} {a b c : Expr} {ta tb tc : TE} {pos : Pos}
theorem binT (ha : PE X a ta) (hb : PE X b tb) {pins : List (Addr × Obj)} {s : Shared} {σ : St} {H : Hp} {R : V → V → Hp → Prop} (I : Inv X pins σ H s)
    (h : ta σ H fun x H1 => tb σ H1 fun y H2 => R x y H2) {Q : Value → Shared → Prop} {f : Value → Value → Sem Value}
    (hf : ∀ v u s2 x y H2, Inv X pins σ H2 s2 → RelV x v → RelV y u → R x y H2 → wpAny (model X.prog X.w) X.A (f v u) Q X.xe s2) :
    wpAny (model X.prog X.w) X.A (eval a X.env) (fun v s₁ => wpAny (model X.prog X.w) X.A (eval b X.env) (fun u s₂ => wpAny (model X.prog X.w) X.A (f v u) Q X.xe s₂) X.xe s₁) X.xe s := by
  refine thn (ha pins s σ H _ I h) fun v s1 ⟨x, H1, I1, r1, q1⟩ => ?_
  refine thn (hb pins s1 σ H1 _ I1 q1) fun u s2 ⟨y, H2, I2, r2, q2⟩ => ?_
  exact hf v u s2 x y H2 I2 r1 r2 q2
theorem pe_op {op : Operator} {r : R2} (ho : OpR X (binaryOp op) r) (ha : PE X a ta) (hb : PE X b tb) : PE X (.BinOp a op b pos) (tOp r ta tb) := by
  intro pins s σ H Q I h
  exact wpAny_BinOp (binT ha hb I h fun v u s2 x y H2 I2 rx ry q => ho pins s2 σ H2 x y v u Q I2 rx ry q)
theorem pe_un {op : UnaryOp} {r : V → Hp → VK → Prop} (ho : UnR X (unaryOp op) r) (ha : PE X a ta) : PE X (.UnaryOp op a pos) (tUn r ta) := by
  intro pins s σ H Q I h
  exact UnaryOp_ (thn (ha pins s σ H _ I h) fun v s1 ⟨x, H1, I1, r1, q1⟩ => ho pins s1 σ H1 x v Q I1 r1 q1)
theorem opI {f : Value → Value → Sem Value} {C : Int → Int → Prop} {g : Int → Int → Int}
    (rule : ∀ (i j : Int) (t u : Tok) (s : Shared) (Q : Value → Shared → Prop) (E : Value → Shared → Prop), C i j → Q (.int (g i j) s.toks) { s with toks := s.toks + 1 } → wpAny (model X.prog X.w) X.A (f (.int i t) (.int j u)) Q E s) :
    OpR X f (rI C fun i j => .int (g i j)) := by
  intro pins s σ H x y v u Q I rx ry h
  obtain ⟨i, j, rfl, rfl, hc, q⟩ := h
  obtain ⟨t, rfl⟩ := rx
  obtain ⟨t', rfl⟩ := ry
  exact rule i j t t' s _ _ hc ⟨.int (g i j), H, I.tok _, ⟨_, rfl⟩, q⟩
theorem opI0 {f : Value → Value → Sem Value} {g : Int → Int → Int}
    (rule : ∀ (i j : Int) (t u : Tok) (s : Shared) (Q : Value → Shared → Prop) (E : Value → Shared → Prop), Q (.int (g i j) s.toks) { s with toks := s.toks + 1 } → wpAny (model X.prog X.w) X.A (f (.int i t) (.int j u)) Q E s) :
    OpR X f (rI0 fun i j => .int (g i j)) := by
  intro pins s σ H x y v u Q I rx ry h
  obtain ⟨i, j, rfl, rfl, q⟩ := h
  obtain ⟨t, rfl⟩ := rx
  obtain ⟨t', rfl⟩ := ry
  exact rule i j t t' s _ _ ⟨.int (g i j), H, I.tok _, ⟨_, rfl⟩, q⟩
theorem opB0 {f : Value → Value → Sem Value} {g : Int → Int → Bool}
    (rule : ∀ (i j : Int) (t u : Tok) (s : Shared) (Q : Value → Shared → Prop) (E : Value → Shared → Prop), Q (.bool (g i j)) s → wpAny (model X.prog X.w) X.A (f (.int i t) (.int j u)) Q E s) :
    OpR X f (rI0 fun i j => .bl (g i j)) := by
  intro pins s σ H x y v u Q I rx ry h
  obtain ⟨i, j, rfl, rfl, q⟩ := h
  obtain ⟨t, rfl⟩ := rx
  obtain ⟨t', rfl⟩ := ry
  exact rule i j t t' s _ _ ⟨.bl (g i j), H, I, rfl, q⟩
def CDiv (i j : Int) : Prop := 0 < j ∧ j < 1073741824
def CMul (i j : Int) : Prop := (-(2 ^ 64) < i ∧ i < 2 ^ 64) ∨ (-(2 ^ 64) < j ∧ j < 2 ^ 64)
theorem CMul.ok {i j : Int} (h : CMul i j) : IntMulOk i j := by
  rcases h with ⟨h1, h2⟩ | ⟨h1, h2⟩
  · exact .of_left (intBits_le_64 h1 h2)
  · exact .of_right (intBits_le_64 h1 h2)
theorem op_add : OpR X (binaryOp .Add) (rI0 fun i j => .int (i + j)) := opI0 fun _ _ _ _ _ _ _ q => add_int q
theorem op_sub : OpR X (binaryOp .Sub) (rI0 fun i j => .int (i - j)) := opI0 fun _ _ _ _ _ _ _ q => sub_int q
theorem op_mul : OpR X (binaryOp .Mult) (rI CMul fun i j => .int (i * j)) := opI fun _ _ _ _ _ _ _ hc q => mul_int q hc.ok
theorem op_fdiv : OpR X (binaryOp .FloorDiv) (rI CDiv fun i j => .int (i / j)) := opI fun i j _ _ _ _ _ hc q => by
  have h1 : (0 : Int) < j := hc.1
  have h2 : j < 1073741824 := hc.2
  exact floordiv_int (by omega) (by rw [Int.fdiv_eq_ediv_of_nonneg i (by omega)]; exact q) (.inl (PyProof.noPylong_small (by omega)))
theorem op_mod : OpR X (binaryOp .Mod) (rI (fun _ j => 0 < j) fun i j => .int (i % j)) := opI fun i j _ _ _ _ _ hc q => by
  have h1 : (0 : Int) < j := hc
  exact mod_int' (by omega) (by rw [Int.fmod_eq_emod_of_nonneg i (by omega)]; exact q)
theorem unI {f : Value → Sem Value} {g : Int → Int}
    (rule : ∀ (i : Int) (t : Tok) (s : Shared) (Q : Value → Shared → Prop) (E : Value → Shared → Prop), Q (.int (g i) s.toks) { s with toks := s.toks + 1 } → wpAny (model X.prog X.w) X.A (f (.int i t)) Q E s) :
    UnR X f (rU fun i => .int (g i)) := by
  intro pins s σ H x v Q I rx h
  obtain ⟨i, rfl, q⟩ := h
  obtain ⟨t, rfl⟩ := rx
  exact rule i t s _ _ ⟨.int (g i), H, I.tok _, ⟨_, rfl⟩, q⟩
theorem un_neg : UnR X (unaryOp .USub) (rU fun i => .int (-i)) := unI fun _ _ _ _ _ q => neg_int q
end
def scal : V → V → Bool
  | .non, .non => true | .non, .int _ => true | .int _, .non => true | .non, .bl _ => true | .bl _, .non => true | .non, .str _ => true | .str _, .non => true
  | .int _, .int _ => true | .bl _, .bl _ => true | .str _, .str _ => true | .byt _, .byt _ => true
  | .int _, .str _ => true | .str _, .int _ => true | .bl _, .str _ => true | .str _, .bl _ => true
  | _, _ => false
def rEq : R2 := fun x y H Q => scal x y = true ∧ Q (.bl (decide (x = y))) H
def rNe : R2 := fun x y H Q => scal x y = true ∧ Q (.bl (!decide (x = y))) H
theorem dec_int {i j : Int} : decide (V.int i = V.int j) = (i == j) := by
  rw [Bool.eq_iff_iff]
  simp
theorem dec_bl {i j : Bool} : decide (V.bl i = V.bl j) = (i == j) := by
  rw [Bool.eq_iff_iff]
  simp
theorem dec_str {i j : Str} : decide (V.str i = V.str j) = (i == j) := by
  rw [Bool.eq_iff_iff]
  simp
theorem dec_byt {i j : Array UInt8} : decide (V.byt i = V.byt j) = (i.toList == j.toList) := by
  rw [Bool.eq_iff_iff]
  cases i
  cases j
  simp
section
variable {X : Cx} {a b c : Expr} {ta tb tc : TE} {pos : Pos}
theorem fin_bl {pins : List (Addr × Obj)} {σ : St} {H : Hp} {s : Shared} {Q : VK} {k k' : Bool} (I : Inv X pins σ H s) (q : Q (.bl k) H) (e : k = k') : EP X pins σ Q (.bool k') s := by
  subst e
  exact ⟨.bl k, H, I, rfl, q⟩
theorem op_eq : OpR X (compareOp .Eq) rEq := by
  intro pins s σ H x y v u Q I rx ry h
  obtain ⟨hs, q⟩ := h
  cases x with
  | non =>
    cases rx
    cases y with
    | non => cases ry; exact PySem.EqNone.eq_none_none (fin_bl I q (by simp))
    | bl j => cases ry; exact PySem.EqNone.eq_none_bool (fin_bl I q (by simp))
    | int j => obtain ⟨t', rfl⟩ := ry; exact PySem.EqNone.eq_none_int (fin_bl I q (by simp))
    | str j => obtain ⟨t', rfl⟩ := ry; exact PySem.EqNone.eq_none_str (fin_bl I q (by simp))
    | _ => exact absurd (show false = true from hs) Bool.false_ne_true
  | bl i =>
    cases rx
    cases y with
    | non => cases ry; exact PySem.EqNone.eq_bool_none (fin_bl I q (by simp))
    | bl j => cases ry; exact eq_bool (fin_bl I q dec_bl)
    | str j => obtain ⟨t', rfl⟩ := ry; exact PySem.EqMixed.eq_bool_str (fin_bl I q (by simp))
    | _ => exact absurd (show false = true from hs) Bool.false_ne_true
  | int i =>
    obtain ⟨t, rfl⟩ := rx
    cases y with
    | non => cases ry; exact PySem.EqNone.eq_int_none (fin_bl I q (by simp))
    | int j => obtain ⟨t', rfl⟩ := ry; exact eq_int (fin_bl I q dec_int)
    | str j => obtain ⟨t', rfl⟩ := ry; exact PySem.EqMixed.eq_int_str (fin_bl I q (by simp))
    | _ => exact absurd (show false = true from hs) Bool.false_ne_true
  | str i =>
    obtain ⟨t, rfl⟩ := rx
    cases y with
    | non => cases ry; exact PySem.EqNone.eq_str_none (fin_bl I q (by simp))
    | bl j => cases ry; exact PySem.EqMixed.eq_str_bool (fin_bl I q (by simp))
    | int j => obtain ⟨t', rfl⟩ := ry; exact PySem.EqMixed.eq_str_int (fin_bl I q (by simp))
    | str j => obtain ⟨t', rfl⟩ := ry; exact eq_str (fin_bl I q dec_str)
    | _ => exact absurd (show false = true from hs) Bool.false_ne_true
  | byt i =>
    obtain ⟨t, rfl⟩ := rx
    cases y with
    | byt j => obtain ⟨t', rfl⟩ := ry; exact PySem.W.eq_bytes (fin_bl I q dec_byt)
    | _ => exact absurd (show false = true from hs) Bool.false_ne_true
  | _ => cases y <;> exact absurd (show false = true from hs) Bool.false_ne_true
theorem op_ne : OpR X (compareOp .NotEq) rNe := by
  intro pins s σ H x y v u Q I rx ry h
  obtain ⟨hs, q⟩ := h
  cases x with
  | non =>
    cases rx
    cases y with
    | non => cases ry; exact PySem.EqNone.ne_none_none (fin_bl I q (by simp))
    | bl j => cases ry; exact PySem.EqNone.ne_none_bool (fin_bl I q (by simp))
    | int j => obtain ⟨t', rfl⟩ := ry; exact PySem.EqNone.ne_none_int (fin_bl I q (by simp))
    | str j => obtain ⟨t', rfl⟩ := ry; exact PySem.EqNone.ne_none_str (fin_bl I q (by simp))
    | _ => exact absurd (show false = true from hs) Bool.false_ne_true
  | bl i =>
    cases rx
    cases y with
    | non => cases ry; exact PySem.EqNone.ne_bool_none (fin_bl I q (by simp))
    | bl j => cases ry; exact ne_bool (fin_bl I q (congrArg not dec_bl))
    | str j => obtain ⟨t', rfl⟩ := ry; exact PySem.EqMixed.ne_bool_str (fin_bl I q (by simp))
    | _ => exact absurd (show false = true from hs) Bool.false_ne_true
  | int i =>
    obtain ⟨t, rfl⟩ := rx
    cases y with
    | non => cases ry; exact PySem.EqNone.ne_int_none (fin_bl I q (by simp))
    | int j => obtain ⟨t', rfl⟩ := ry; exact ne_int (fin_bl I q (congrArg not dec_int))
    | str j => obtain ⟨t', rfl⟩ := ry; exact PySem.EqMixed.ne_int_str (fin_bl I q (by simp))
    | _ => exact absurd (show false = true from hs) Bool.false_ne_true
  | str i =>
    obtain ⟨t, rfl⟩ := rx
    cases y with
    | non => cases ry; exact PySem.EqNone.ne_str_none (fin_bl I q (by simp))
    | bl j => cases ry; exact PySem.EqMixed.ne_str_bool (fin_bl I q (by simp))
    | int j => obtain ⟨t', rfl⟩ := ry; exact PySem.EqMixed.ne_str_int (fin_bl I q (by simp))
    | str j => obtain ⟨t', rfl⟩ := ry; exact ne_str (fin_bl I q (congrArg not dec_str))
    | _ => exact absurd (show false = true from hs) Bool.false_ne_true
  | byt i =>
    obtain ⟨t, rfl⟩ := rx
    cases y with
    | byt j => obtain ⟨t', rfl⟩ := ry; exact PySem.W.ne_bytes (fin_bl I q (congrArg not dec_byt))
    | _ => exact absurd (show false = true from hs) Bool.false_ne_true
  | _ => cases y <;> exact absurd (show false = true from hs) Bool.false_ne_true
theorem op_lt : OpR X (compareOp .Lt) (rI0 fun i j => .bl (decide (i < j))) := opB0 fun _ _ _ _ _ _ _ q => lt_int q
theorem op_le : OpR X (compareOp .LtE) (rI0 fun i j => .bl (decide (i ≤ j))) := opB0 fun _ _ _ _ _ _ _ q => le_int q
theorem op_gt : OpR X (compareOp .Gt) (rI0 fun i j => .bl (decide (j < i))) := opB0 fun _ _ _ _ _ _ _ q => gt_int q
theorem op_isN : OpR X (compareOp .Is) (fun x y H Q => y = .non ∧ Q (.bl (decide (x = .non))) H) := by
  intro pins s σ H x y v u Q I rx ry h
  obtain ⟨rfl, q⟩ := h
  cases ry
  refine is_none_gen (fin_bl I q ?_)
  cases x <;> first
    | (cases rx; rfl)
    | (obtain ⟨t, rfl⟩ := rx; rfl)
theorem op_notN : OpR X (compareOp .IsNot) (fun x y H Q => y = .non ∧ Q (.bl (!decide (x = .non))) H) := by
  intro pins s σ H x y v u Q I rx ry h
  obtain ⟨rfl, q⟩ := h
  cases ry
  refine isnot_none_gen (fin_bl I q ?_)
  cases x <;> first
    | (cases rx; rfl)
    | (obtain ⟨t, rfl⟩ := rx; rfl)
theorem nomark (b : Expr) {op : CmpOp} (h : op ≠ .In := by decide) (h2 : op ≠ .NotIn := by decide) : behindInMarks op b = false := by
  have e1 : (op == CmpOp.In) = false := by cases op <;> first | rfl | exact absurd rfl h
  have e2 : (op == CmpOp.NotIn) = false := by cases op <;> first | rfl | exact absurd rfl h2
  cases b <;> simp [behindInMarks, e1, e2]
theorem pe_cmpR {op : CmpOp} {r : R2} (ho : OpR X (compareOp op) r) (ha : PE X a ta) (hb : PE X b tb) (hm : behindInMarks op b = false) : PE X (.Compare a [op] [b] pos) (tOp r ta tb) := by
  intro pins s σ H Q I h
  exact wpAny_Compare1 (binT ha hb I h fun v u s2 x y H2 I2 rx ry q => ho pins s2 σ H2 x y v u Q I2 rx ry q) hm
def tTest (t : TE) : TT := fun σ H Q => t σ H fun x H' => ∃ k, x = .bl k ∧ Q k H'
theorem pt_cmpR {op : CmpOp} {r : R2} (ho : OpR X (compareOp op) r) (ha : PE X a ta) (hb : PE X b tb) (hm : behindInMarks op b = false) : PT X (.Compare a [op] [b] pos) (tTest (tOp r ta tb)) := by
  intro pins s σ H Q I h
  refine wpAny_isTrue_Compare1 (thn (ha pins s σ H _ I h) fun v s1 ⟨x, H1, I1, r1, q1⟩ => thn (hb pins s1 σ H1 _ I1 q1) fun u s2 ⟨y, H2, I2, r2, q2⟩ =>
    thn (ho pins s2 σ H2 x y v u _ I2 r1 r2 q2) fun c s3 ⟨z, H3, I3, r3, k, e, q3⟩ => ?_) hm
  subst e
  cases r3
  exact wpAny_truthy_bool ⟨H3, I3, q3⟩
def tChain (r r' : R2) (ta tb tc : TE) : TE := fun σ H Q => ta σ H fun x H1 => tb σ H1 fun y H2 => r x y H2 fun z H3 => ∃ k, z = .bl k ∧
  (if k = true then tc σ H3 fun w' H4 => r' y w' H4 Q else Q (.bl false) H3)
theorem pe_chain {op op' : CmpOp} {r r' : R2} (ho : OpR X (compareOp op) r) (ho' : OpR X (compareOp op') r') (ha : PE X a ta) (hb : PE X b tb) (hc : PE X c tc)
    (hm : lastMarks [op, op'] [b, c] = false := by with_unfolding_all rfl) : PE X (.Compare a [op, op'] [b, c] pos) (tChain r r' ta tb tc) := by
  intro pins s σ H Q I h
  refine Compare_chain (thn (ha pins s σ H _ I h) fun v s1 ⟨x, H1, I1, r1, q1⟩ => chain_link (thn (hb pins s1 σ H1 _ I1 q1) fun u s2 ⟨y, H2, I2, r2, q2⟩ =>
    thn (ho pins s2 σ H2 x y v u _ I2 r1 r2 q2) fun d s3 ⟨z, H3, I3, r3, k, e, q3⟩ => ?_)) hm
  subst e
  cases r3
  refine wpAny_truthy_bool ?_
  cases k with
  | false => exact ite_ff ⟨.bl false, H3, I3, rfl, q3⟩
  | true => exact ite_tt (chain_last (thn (hc pins s3 σ H3 _ I3 q3) fun w' s4 ⟨z', H4, I4, r4, q4⟩ => ho' pins s4 σ H4 y z' u w' Q I4 r2 r4 q4))
def TruV (K : PySem.W.Frag) (x : V) (H : Hp) (k : Bool) : Prop :=
  match x with
  | .non => k = false
  | .bl b => k = b
  | .int i => k = (i != 0)
  | .str y => y.length ≤ sizeLine ∧ k = ((y.length : Int) != 0)
  | .byt y => y.size ≤ sizeLine ∧ k = ((y.size : Int) != 0)
  | .ref p => (∃ xs, SqL K H p xs ∧ k = !xs.isEmpty) ∨ (∃ xs, SqT K H p xs ∧ k = !xs.isEmpty) ∨ ∃ kvs, H p = some (.dK kvs) ∧ k = !kvs.isEmpty
  | _ => False
theorem isEmpty_kv {κ : Type} {kvs : List (κ × V)} {vs : List (κ × Value)} (r : KV kvs vs) : (!vs.isEmpty) = !kvs.isEmpty := by
  cases r <;> rfl
theorem isEmpty_of {xs : List V} {its : List Value} (r : Vals xs its) : (!its.toArray.isEmpty) = !xs.isEmpty := by
  cases r <;> simp
theorem line63 : (sizeLine : Nat) < 2 ^ 63 := by rw [sizeLine_eq]; decide
theorem tru_ok : TruR X (fun x H Q => ∃ k, TruV X.K x H k ∧ Q k H) := by
  intro pins s σ H x v Q I rx h
  obtain ⟨k, e, q⟩ := h
  have hl := line63
  have hs : sizeLine = 16777216 := sizeLine_eq
  cases x with
  | non =>
    cases rx
    have e' : k = false := e
    subst e'
    exact truthy_none ⟨H, I, q⟩
  | bl b =>
    cases rx
    have e' : k = b := e
    subst e'
    exact wpAny_truthy_bool ⟨H, I, q⟩
  | int i =>
    obtain ⟨t, rfl⟩ := rx
    have e' : k = (i != 0) := e
    subst e'
    exact PySem.P.truthy_int ⟨H, I, q⟩
  | str y =>
    obtain ⟨t, rfl⟩ := rx
    obtain ⟨hy, e'⟩ : y.length ≤ sizeLine ∧ k = ((y.length : Int) != 0) := e
    subst e'
    exact PySem.P.truthy_str (by omega) ⟨H, I.tok _, q⟩
  | byt y =>
    obtain ⟨t, rfl⟩ := rx
    obtain ⟨hy, e'⟩ : y.size ≤ sizeLine ∧ k = ((y.size : Int) != 0) := e
    subst e'
    exact PySem.W.truthy_bytes (by omega) ⟨H, I.tok _, q⟩
  | ref p =>
    cases rx
    have e' : (∃ xs, SqL X.K H p xs ∧ k = !xs.isEmpty) ∨ (∃ xs, SqT X.K H p xs ∧ k = !xs.isEmpty) ∨ ∃ kvs, H p = some (.dK kvs) ∧ k = !kvs.isEmpty := e
    rcases e' with ⟨xs, hx, e'⟩ | ⟨xs, hx, e'⟩ | ⟨kvs, hx, e'⟩
    · subst e'
      obtain ⟨its, r, pl, hz⟩ := I.list hx
      have hlen := r.length
      exact wpAny_truthy_list pl.isList (by simp only [List.size_toArray]; omega) ⟨H, I.tok _, by rw [isEmpty_of r]; exact q⟩
    · subst e'
      obtain ⟨its, r, pl, hz⟩ := I.tuple hx
      have hlen := r.length
      exact truthy_tuple pl (by simp only [List.size_toArray]; omega) ⟨H, I.tok _, by rw [isEmpty_of r]; exact q⟩
    · subst e'
      obtain ⟨hz, hS, vs, r, m⟩ : kvs.length ≤ sizeLine ∧ (p == sysModules) = false ∧ ∃ vs, KV kvs vs ∧ s.heap.DictOf (mixKind X.prog X.w) p vs := I.hok p _ hx
      have hlen : kvs.length = vs.length := Paired.length r
      exact wpAny_truthy_dict hS m (by omega) ⟨H, I.tok _, by rw [isEmpty_kv r]; exact q⟩
  | _ => exact (show False from e).elim
theorem pt_truth (ha : PE X a ta) (he : ∀ whole, isTrue a X.env whole = (do let v ← whole; standAt a.pos; holding [v] (truthy v))) :
    PT X a (fun σ H Q => ta σ H fun x H' => ∃ k, TruV X.K x H' k ∧ Q k H') := by
  intro pins s σ H Q I h
  exact isTrue_plain (thn (ha pins s σ H _ I h) fun v s1 ⟨x, H1, I1, r1, q1⟩ => tru_ok pins s1 σ H1 x v Q I1 r1 q1) (he _)
theorem vals1 {x : V} {us : List Value} (r : Vals [x] us) : ∃ u, us = [u] ∧ RelV x u := by
  cases r with
  | cons r1 r2 => cases r2; exact ⟨_, rfl, r1⟩
theorem vals2 {x y : V} {us : List Value} (r : Vals [x, y] us) : ∃ u w', us = [u, w'] ∧ RelV x u ∧ RelV y w' := by
  cases r with
  | cons r1 r2 =>
    cases r2 with
    | cons r3 r4 => cases r4; exact ⟨_, _, rfl, r1, r3⟩
theorem call_max2 (hc : X.calm = true) : CallR X (.builtin "max") (fun xs H Q => ∃ i j, xs = [.int i, .int j] ∧ Q (.int (if j > i then j else i)) H) := by
  intro pins s σ H xs us Q I r h
  obtain ⟨i, j, rfl, q⟩ := h
  obtain ⟨u, w', rfl, ⟨t, rfl⟩, ⟨t', rfl⟩⟩ := vals2 r
  refine max_two_ints (I.ok.hd hc) fun h' tk k => ⟨_, H, I.kept k, ?_, q⟩
  by_cases hj : j > i
  · rw [if_pos hj, if_pos hj]; exact ⟨_, rfl⟩
  · rw [if_neg hj, if_neg hj]; exact ⟨_, rfl⟩
theorem call_min2 (hc : X.calm = true) : CallR X (.builtin "min") (fun xs H Q => ∃ i j, xs = [.int i, .int j] ∧ Q (.int (if j < i then j else i)) H) := by
  intro pins s σ H xs us Q I r h
  obtain ⟨i, j, rfl, q⟩ := h
  obtain ⟨u, w', rfl, ⟨t, rfl⟩, ⟨t', rfl⟩⟩ := vals2 r
  refine min_two_ints (I.ok.hd hc) fun h' tk k => ⟨_, H, I.kept k, ?_, q⟩
  by_cases hj : j < i
  · rw [if_pos hj, if_pos hj]; exact ⟨_, rfl⟩
  · rw [if_neg hj, if_neg hj]; exact ⟨_, rfl⟩
theorem call_int1 : CallR X (.type "int") (fun xs H Q => (∃ i, xs = [.int i] ∧ Q (.int i) H) ∨ ∃ k, xs = [.bl k] ∧ Q (.int (if k then 1 else 0)) H) := by
  intro pins s σ H xs us Q I r h
  rcases h with ⟨i, rfl, q⟩ | ⟨k, rfl, q⟩
  · obtain ⟨u, rfl, t, rfl⟩ := vals1 r
    exact call_int_int ⟨.int i, H, I, ⟨_, rfl⟩, q⟩
  · obtain ⟨u, rfl, r1⟩ := vals1 r
    cases r1
    exact call_int_bool ⟨.int (if k then 1 else 0), H, I.tok _, ⟨_, rfl⟩, q⟩
end
end L2
namespace L2
open PySem PySem.Spec PyProof.Rows
structure ObjM (h : Heap) (x dx C : Addr) (mA : Str → Option Value) : Prop where
  obj : h.get? x = some (PySem.W.instObj C dx)
  ns : h.Ns1 dx mA
  ne : dx ≠ x
theorem lookIn_ns {h : Heap} {dx : Addr} {mA : Str → Option Value} (n : h.Ns1 dx mA) : ∃ od, h.get? dx = some od ∧ ∀ name, PySem.W.lookIn name od = some (mA name) := by
  obtain ⟨o, es, ep, ho, hd, hk, _, hm⟩ := n
  refine ⟨o, ho, fun name => ?_⟩
  have e := hm name
  unfold nsFind findBy at e
  rw [← Array.find?_toList] at e
  unfold PySem.W.lookIn
  rw [hd]
  dsimp only
  split
  · rename_i y q
    rw [q] at e
    exact congrArg some e
  · rename_i q
    rw [q] at e
    have a : es.toList.any (·.refKey) = false := by
      rw [List.any_eq_false]
      intro y hy
      obtain ⟨z, t, hkey⟩ := hk y (Array.mem_toList_iff.mp hy)
      simp [DictEntry.refKey, hkey]
    have a' : ¬ es.toList.any (·.refKey) = true := by rw [a]; exact Bool.false_ne_true
    rw [if_neg a']
    exact congrArg some e
theorem ObjM.look {h : Heap} {x dx C : Addr} {mA : Str → Option Value} (I : ObjM h x dx C mA) : ∃ od, PySem.W.InstAt h x (PySem.W.instObj C dx) C (some od) ∧ ∀ name, PySem.W.lookIn name od = some (mA name) :=
  let ⟨od, ho, hl⟩ := lookIn_ns I.ns
  ⟨od, ⟨I.obj, rfl, rfl, ho⟩, hl⟩
section
variable {prog : Program} {w : World} {A : Around} {E : Value → Shared → Prop} {s : Shared} {K : PySem.W.Frag} {x dx C f : Addr} {mA : Str → Option Value} {name : Str} {v : Value}
theorem get_meth {pl : Sem Bool} {Q : Value × List Value → Shared → Prop} (X : K.In s.heap) (I : ObjM s.heap x dx C mA) (hg : PySem.W.plainGet K C name = true)
    (hf : PySem.W.findIn K (.ref C) name = some (some (.ref f))) (ht : PySem.W.isFn K (.ref f) = true) (hv : mA name = none) (h : Q (.ref f, [.ref x]) s) :
    wpAny (model prog w) A (getMethod (.ref x) name pl) Q E s := by
  obtain ⟨od, J, hl⟩ := I.look
  exact PySem.W.method_fn X J (PySem.W.plainGet_of hg).1 (PySem.W.plainGet_of hg).2 hf (beq_iff_eq.mp ht) (by show (PySem.W.lookIn name od).map (·.isSome) = some false; rw [hl, hv]; rfl) h
theorem make_map0 {R : Result → Shared → Prop} (X : K.In s.heap) (hm : PySem.W.makesIn K C = true)
    (hi : PySem.W.findIn K (.ref C) "__init__" = some (some (.builtin "object.__init__")))
    (hb : ∀ self, PySem.W.Looks (model prog w) s.heap (bindSpecial (.builtin "object.__init__") self) (.builtin "object.__init__", [self]))
    (h : codeAny (model prog w) (A.under (.builtin "type.__call__" ⟨[.ref C], []⟩)) (.call (.builtin "object.__init__") ⟨[.ref (s.heap.objs.size + 1)], []⟩) (PySem.W.InitBack (s.heap.objs.size + 1) R)
      { s with heap := (s.heap.push PySem.W.emptyDict).push (PySem.W.instObj C s.heap.objs.size) }) :
    codeAny (model prog w) A (.call (.ref C) ⟨[], []⟩) R s := by
  obtain ⟨hh, g, d, t, os⟩ := s
  exact PySem.W.make_core (PySem.W.makes_of X hm) (PySem.W.looks_findIn X hi) hb (.inr ⟨rfl, rfl⟩) h
end
def putF (f : Str) (v : V) : List (Str × V) → List (Str × V)
  | [] => [(f, v)]
  | (g, x) :: r => if g = f then (g, v) :: r else (g, x) :: putF f v r
theorem RelO.none_of {o : Option Value} (r : RelO none o) : o = none := by
  cases o with
  | none => rfl
  | some u => exact (show False from r).elim
section
variable {P : Program} {w : World} {H H' : Hp} {h h' : Heap} {a C dx : Addr} {fs fs' : List (Str × V)}
theorem ins_get (hok : HOk P w H h) (e : H a = some (.ins C dx fs)) : ∃ mA, ObjM h a dx C mA ∧ (∀ f, RelO (fs.lookup f) (mA f)) ∧ PySem.Within mA (fs.map (·.1)) ∧ fs.length ≤ 1000 ∧ H dx = some (.own a) := by
  obtain ⟨d, z, ne, ob, mA, n, r, q⟩ := (show ObjOk P w H h a (.ins C dx fs) from hok a _ e)
  exact ⟨mA, ⟨ob, n, ne⟩, r, q, z, d⟩
end
structure Cls (K : PySem.W.Frag) (C : Addr) : Prop where
  pg : PySem.W.plainGet K C Str.empty = true
  hd : PySem.W.hasDictIn K C = true
  po : PySem.W.plainOver K C = true
  sa : PySem.W.findIn K (.ref C) "__setattr__" = some (some (.builtin "object.__setattr__"))
theorem Cls.get {K : PySem.W.Frag} {C : Addr} (c : Cls K C) (f : Str) : PySem.W.plainGet K C f = true := c.pg
structure Con (K : PySem.W.Frag) (C : Addr) (f : Str) (v : V) (u : Value) : Prop where
  at_ : PySem.W.findIn K (.ref C) f = some (some u)
  rel : RelV v u
  get : PySem.W.specialIn K u "__get__" = some none
  cp : PySem.W.copiedNames.contains f = false
structure Meth (K : PySem.W.Frag) (C : Addr) (m : Str) (f : Addr) : Prop where
  at_ : PySem.W.findIn K (.ref C) m = some (some (.ref f))
  fn : PySem.W.isFn K (.ref f) = true
  kp : PySem.W.keepIn K (.ref f) = true
section
variable {X : Cx} {pins : List (Addr × Obj)} {σ : St} {H : Hp} {s : Shared} {a C dx : Addr} {fs : List (Str × V)} {f : Str} {v : V} {A : Around} {E : Value → Shared → Prop}
theorem getmeth_ok {m : Str} {g : Addr} {pl : Sem Bool} {Q : Value × List Value → Shared → Prop} (I : Inv X pins σ H s) (e : H a = some (.ins C dx fs)) (c : Cls X.K C) (k : Meth X.K C m g) (l : fs.lookup m = none)
    (h : Q (.ref g, [.ref a]) s) : wpAny (model X.prog X.w) A (getMethod (.ref a) m pl) Q E s := by
  obtain ⟨mA, O, r, _, _, _⟩ := ins_get I.hok e
  have hn : mA m = none := RelO.none_of (by rw [← l]; exact r m)
  exact get_meth I.kIn O (c.get m) k.at_ k.fn hn h
theorem Inv.made (I : Inv X pins σ H s) : Inv X pins σ (upd (upd H s.heap.objs.size (.own (s.heap.objs.size + 1))) (s.heap.objs.size + 1) (.ins C s.heap.objs.size []))
    { s with heap := (s.heap.push PySem.W.emptyDict).push (PySem.W.instObj C s.heap.objs.size) } := by
  have e1 : (s.heap.push PySem.W.emptyDict).get? s.heap.objs.size = some PySem.W.emptyDict := Heap.get?_push_size s.heap rfl
  have e2 : ((s.heap.push PySem.W.emptyDict).push (PySem.W.instObj C s.heap.objs.size)).get? (s.heap.objs.size + 1) = some (PySem.W.instObj C s.heap.objs.size) := by
    have := Heap.get?_push_size (s.heap.push PySem.W.emptyDict) (o := PySem.W.instObj C s.heap.objs.size) rfl
    rwa [Heap.size_push] at this
  have e3 : (s.heap.push PySem.W.emptyDict).Ns s.heap.objs.size (fun _ => none) := ⟨PySem.W.emptyDict, #[], _, e1, rfl, (fun e he => absurd he (by simp)), fun _ => rfl⟩
  have I1 := I.laid (a := s.heap.objs.size) (o := .own (s.heap.objs.size + 1)) (h' := s.heap.push PySem.W.emptyDict) (t' := s.toks) (fun b u q => Heap.get?_push_of_some _ q) (Nat.le_refl _) ⟨_, e1⟩
  refine I1.laid (a := s.heap.objs.size + 1) (o := .ins C s.heap.objs.size []) (t' := s.toks) (fun b u q => Heap.get?_push_of_some _ q) (Nat.le_of_eq (Heap.size_push _ _)) ?_
  have ne : s.heap.objs.size ≠ s.heap.objs.size + 1 := Nat.ne_of_lt (Nat.lt_succ_self _)
  refine ⟨by rw [upd_ne ne, upd_same], Nat.zero_le _, ne, e2, fun _ => none, (Heap.Ns1.of_empty e3).at fun o q => Heap.get?_push_of_some _ q, fun _ => True.intro, fun y hy => absurd rfl hy⟩
end
section
variable {X : Cx} {o e value : Expr} {f : Str} {pos pos' tpos : Pos} {ta tv : TE}
theorem methcall_of {pl : Sem Bool} {m : Str} {apos : Pos} {args : List Expr} {pins : List (Addr × Obj)} {s : Shared} {σ : St} {H : Hp} {Q : Value → Shared → Prop} {te : TE} (he : PE X e te) (I : Inv X pins σ H s)
    (h : te σ H fun x H1 => ∃ a C dx fs g, x = .ref a ∧ H1 a = some (.ins C dx fs) ∧ Cls X.K C ∧ Meth X.K C m g ∧ fs.lookup m = none ∧
      ∀ s1, Inv X pins σ H1 s1 → wpAny (model X.prog X.w) X.A (callWith pos (.ref g) [.ref a] (backTo pos (starEach args X.env)) (backToKw pos (keywordEach [] X.env))) Q X.xe s1)
    (ht : eval (.Call (.Attribute e m apos) args [] pos) X.env = (do
      let ov ← eval e X.env
      standAt apos.atName
      let (f, first) ← holding [ov] (getMethod ov m pl)
      callWith pos f first (backTo pos (starEach args X.env)) (backToKw pos (keywordEach [] X.env)))) :
    wpAny (model X.prog X.w) X.A (eval (.Call (.Attribute e m apos) args [] pos) X.env) Q X.xe s := by
  refine PySem.W.methodCall_KW (pl := pl) (thn (he pins s σ H _ I h) fun u s1 ⟨x, H1, I1, rx, a, C, dx, fs, g, ex, ea, c, k, l, q⟩ => ?_) ht
  subst ex
  obtain rfl : u = Value.ref a := rx
  exact getmeth_ok I1 ea c k l (q s1 I1)
end
section
variable {X : Cx} {pins : List (Addr × Obj)} {σ : St} {H : Hp} {s : Shared} {A : Around} {E : Value → Shared → Prop} {Q : Value → Shared → Prop} {c : Value} {b : Bool}
inductive TyOf (K : PySem.W.Frag) (H : Hp) : V → Value → Prop where
  | non : TyOf K H .non (.type "NoneType")
  | bl (x : Bool) : TyOf K H (.bl x) (.type "bool")
  | int (i : Int) : TyOf K H (.int i) (.type "int")
  | str (x : Str) : TyOf K H (.str x) (.type "str")
  | flt (x : UInt64) : TyOf K H (.flt x) (.type "float")
  | lst {a : Addr} {xs : List V} (e : H a = some (.lst xs)) : TyOf K H (.ref a) (.type "list")
  | frz {a : Addr} {o : Obj} {xs : List V} (e : H a = some (.frz o (.lst xs))) : TyOf K H (.ref a) (.type "list")
  | tup {a : Addr} {xs : List V} (e : H a = some (.tup xs)) : TyOf K H (.ref a) (.type "tuple")
  | dK {a : Addr} {kvs : List (Key × V)} (e : H a = some (.dK kvs)) : TyOf K H (.ref a) (.type "dict")
  | dT {a : Addr} {kvs : List (List Key × V)} (e : H a = some (.dT kvs)) : TyOf K H (.ref a) (.type "dict")
  | ins {a C dx : Addr} {fs : List (Str × V)} (e : H a = some (.ins C dx fs)) (cl : Cls K C) (ha : PySem.W.findIn K (.ref C) "__class__" = some (some (.builtin "object.__class__")))
      (hn : PySem.W.specialIn K (.builtin "object.__class__") "__get__" = some (some (.builtin "getset_descriptor.__get__"))) (htk : PySem.W.takesIn K (.builtin "object.__class__") = some true)
      (hm : PySem.W.mroIn K C (.type "object") = some true) : TyOf K H (.ref a) (.ref C)
theorem isinst_ok {x : V} {u t : Value} (I : Inv X pins σ H s) (rx : RelV x u) (ty : TyOf X.K H x t) (e : PySem.W.kitOne X.K t c = some b) (h : ∀ tk, Q (.bool b) { s with toks := tk }) :
    wpAny (model X.prog X.w) A (call (.builtin "isinstance") [u, c]) Q E s := by
  cases ty with
  | non => cases (show u = Value.none from rx); exact PySem.W.kia_one PySem.W.kitx_none I.kIn True.intro e (fun z => nomatch z) h
  | bl y => cases (show u = Value.bool y from rx); exact PySem.W.kia_one PySem.W.kitx_bool I.kIn True.intro e (fun z => nomatch z) h
  | int i => obtain ⟨t, q⟩ := (show ∃ t, u = Value.int i t from rx); cases q; exact PySem.W.kia_one PySem.W.kitx_int I.kIn True.intro e (fun z => nomatch z) h
  | str y => obtain ⟨t, q⟩ := (show ∃ t, u = Value.str y t from rx); cases q; exact PySem.W.kia_one PySem.W.kitx_str I.kIn True.intro e (fun z => nomatch z) h
  | flt y => obtain ⟨t, q⟩ := (show ∃ t, u = Value.float y t from rx); cases q; exact PySem.W.kia_one PySem.W.kitx_float I.kIn True.intro e (fun z => nomatch z) h
  | @lst a xs ea =>
    cases (show u = Value.ref a from rx)
    obtain ⟨_, _, n, _, h1⟩ := (show ObjOk X.prog X.w H s.heap a (.lst xs) from I.hok a _ ea)
    exact PySem.W.kia_one PySem.W.kitx_list I.kIn ⟨_, h1, rfl⟩ e (fun z => nomatch z) h
  | @frz a ob xs ea =>
    cases (show u = Value.ref a from rx)
    obtain ⟨_, _, _, n, _, h1⟩ := (show ObjOk X.prog X.w H s.heap a (.frz ob (.lst xs)) from I.hok a _ ea)
    exact PySem.W.kia_one PySem.W.kitx_list I.kIn ⟨_, h1, rfl⟩ e (fun z => nomatch z) h
  | @tup a xs ea =>
    cases (show u = Value.ref a from rx)
    obtain ⟨_, _, _, p⟩ := (show ObjOk X.prog X.w H s.heap a (.tup xs) from I.hok a _ ea)
    obtain ⟨o, h1, h2, _⟩ := p
    exact PySem.W.kia_one PySem.W.kitx_tuple I.kIn ⟨o, h1, h2⟩ e (fun z => nomatch z) h
  | @dK a kvs ea =>
    cases (show u = Value.ref a from rx)
    obtain ⟨_, _, vs, _, p⟩ := (show ObjOk X.prog X.w H s.heap a (.dK kvs) from I.hok a _ ea)
    obtain ⟨o, es, ep, h1, h2, _⟩ := p
    exact PySem.W.kia_one PySem.W.kitx_dict I.kIn ⟨o, h1, h2.1⟩ e (fun z => nomatch z) h
  | @dT a kvs ea =>
    cases (show u = Value.ref a from rx)
    obtain ⟨_, _, xs, _, o, es, ep, h1, h2, _⟩ := (show ObjOk X.prog X.w H s.heap a (.dT kvs) from I.hok a _ ea)
    exact PySem.W.kia_one PySem.W.kitx_dict I.kIn ⟨o, h1, h2.1⟩ e (fun z => nomatch z) h
  | @ins a C dx fs ea cl ha hn htk hm =>
    cases (show u = Value.ref a from rx)
    obtain ⟨mA, O, _⟩ := ins_get I.hok ea
    obtain ⟨od, J, _⟩ := O.look
    exact PySem.W.kia_one (PySem.W.kitx_own (cl.get _) cl.hd ha hn htk hm) I.kIn J e (fun z => nomatch z) h
end
end L2
namespace L2
open PySem PySem.Spec PyProof.Rows
structure Room (k : Nat) (A : Around) : Prop where
  hd : A.handled = none
  dp : A.depth + 3 * k + 5 < recursionLimit
  un : A.units + 16 * k + 200 < cLine
theorem Room.mono {j k : Nat} {A : Around} (r : Room k A) (h : j ≤ k) : Room j A := ⟨r.hd, by have := r.dp; omega, by have := r.un; omega⟩
theorem Room.deeper {k : Nat} {A : Around} (r : Room (k + 1) A) (env : Env) : Room k (A.deeper env) :=
  ⟨r.hd, by have := r.dp; show A.depth + 1 + 3 * k + 5 < _; omega, by have := r.un; show A.units + 3 + 16 * k + 200 < _; omega⟩
theorem Room.in1 {k : Nat} {A : Around} (r : Room (k + 1) A) : Room k A.in1 :=
  ⟨r.hd, by have := r.dp; show A.depth + 3 * k + 5 < _; omega, by have := r.un; show A.units + 1 + 16 * k + 200 < _; omega⟩
theorem Room.depth {k : Nat} {A : Around} (r : Room k A) : A.depth < recursionLimit := by have := r.dp; omega
theorem Room.units {k : Nat} {A : Around} (r : Room k A) : A.units + 64 < cLine := by have := r.un; omega
def tNil : TA := fun _ H Q => Q [] H
def tCons (ta : TE) (tr : TA) : TA := fun σ H Q => ta σ H fun x H1 => tr σ H1 fun xs H2 => Q (x :: xs) H2
section
variable {X : Cx} {e : Expr} {es : List Expr} {te : TE} {t : TA} {pos : Pos}
theorem pa_nil : PA X [] tNil := fun _ _ _ _ H Q I h => Calls.spliced_nil ⟨[], H, I, .nil, h⟩
theorem pa_cons (ha : PE X e te) (hr : PA X es t) (hs : starEach (e :: es) X.env = (false, eval e X.env) :: starEach es X.env := by rfl) : PA X (e :: es) (tCons te t) := by
  intro pos pins s σ H Q I h
  rw [hs]
  show wpAny _ _ (spliced ((false, eval e X.env) :: backTo pos (starEach es X.env))) _ _ s
  refine Calls.spliced_cons (thn (ha pins s σ H _ I h) fun u s1 ⟨x, H1, I1, r1, q1⟩ => ?_)
  exact thn (hr pos pins s1 σ H1 _ I1 q1) fun us s2 ⟨xs, H2, I2, r2, q2⟩ => ⟨x :: xs, H2, I2, .cons r1 r2, q2⟩
def tTup (t : TA) : TE := fun σ H Q => t σ H fun xs H1 => xs.length ≤ sizeLine ∧ ∀ p, H1 p = none → Q (.ref p) (upd H1 p (.tup xs))
def tLst (t : TA) : TE := fun σ H Q => t σ H fun xs H1 => xs.length ≤ sizeLine ∧ ∀ p, H1 p = none → Q (.ref p) (upd H1 p (.lst xs))
theorem pe_tup {x1} (h : PA X es t) : PE X (.Tuple es x1 pos) (tTup t) := by
  intro pins s σ H Q I hq
  refine wpAny_Tuple_spliced (thn (h pos pins s σ H _ I hq) fun us s1 ⟨xs, H1, I1, r, z, q⟩ => ⟨by rw [← r.length]; exact z, ?_⟩)
  have hf : H1 s1.heap.objs.size = none := I1.hok.fresh (Nat.le_refl _)
  refine ⟨.ref s1.heap.objs.size, upd H1 s1.heap.objs.size (.tup xs), I1.laid (t' := s1.toks) (fun b u e => Heap.get?_push_of_some _ e) (Nat.le_refl _) ?_, rfl, q _ hf⟩
  exact ⟨z, us, r, ⟨_, Heap.get?_push_size _ rfl, rfl, _, rfl⟩⟩
theorem pe_lst (h : PA X es t) : PE X (.List es pos) (tLst t) := by
  intro pins s σ H Q I hq
  refine wpAny_List_spliced (thn (h pos pins s σ H _ I hq) fun us s1 ⟨xs, H1, I1, r, z, q⟩ => ⟨by rw [← r.length]; exact z, ?_⟩)
  have hf : H1 s1.heap.objs.size = none := I1.hok.fresh (Nat.le_refl _)
  refine ⟨.ref s1.heap.objs.size, upd H1 s1.heap.objs.size (.lst xs), I1.laid (t' := s1.toks) (fun b u e => Heap.get?_push_of_some _ e) (Nat.le_refl _) ?_, rfl, q _ hf⟩
  exact ⟨z, us, 0, r, Heap.get?_push_size _ rfl⟩
end
abbrev Sp := List V → Hp → VK → XK → Prop
abbrev CXT := List Env → Hp → Shared → XK → Value → Shared → Prop
structure Env0 (P : Program) (w : World) (K : PySem.W.Frag) (mg : Str → Option Value) (base : Heap) (A : Around) (outer : List Env) (s : Shared) (H : Hp) : Prop where
  frames : A.frames = some outer
  mod : Mod K mg base
  bs : ∀ b o, base.get? b = some o → s.heap.get? b = some o ∧ H b = none
  bsz : base.objs.size ≤ s.heap.objs.size
  funs : s.heap.FunFrames base outer
  frf : ∀ b ∈ frs outer, H b = none
  hok : HOk P w H s.heap
  bare : AllBare s.gens
def CE (outer : List Env) (P : Program) (w : World) (H : Hp) (s : Shared) (Q : VK) (u : Value) (s' : Shared) : Prop :=
  ∃ v H', s'.os = s.os ∧ AllBare s'.gens ∧ Un (frs outer) [] H H' s.heap s'.heap ∧ HOk P w H' s'.heap ∧ RelV v u ∧ Q v H'
def CR (CX : CXT) (outer : List Env) (P : Program) (w : World) (H : Hp) (s : Shared) (Q : VK) (E : XK) (r : Result) (s' : Shared) : Prop :=
  match r with
  | .ok (.ret u) => CE outer P w H s Q u s'
  | .ok _ => False
  | .error e => CX outer H s E e s'
structure FnOk (P : Program) (w : World) (K : PySem.W.Frag) (mg : Str → Option Value) (base : Heap) (CX : CXT) (k : Nat) (f : Addr) (fd : FuncData) (ps : List Str) (sp : Sp) : Prop where
  len : ∀ vs H Q E, sp vs H Q E → vs.length = ps.length
  run : ∀ (A : Around) (outer : List Env) (s : Shared) (H : Hp) (args : Args) (us : List Value) (vs : List V) (Q : VK) (E : XK), Room k A → Env0 P w K mg base A outer s H → BindsTo s fd args (ps.zip us) → Vals vs us → sp vs H Q E →
    codeAny (model P w) A (.call (.ref f) args) (CR CX outer P w H s Q E) s
theorem FnOk.mono {P : Program} {w : World} {K : PySem.W.Frag} {mg : Str → Option Value} {base : Heap} {CX : CXT} {j k : Nat} {f : Addr} {fd : FuncData} {ps : List Str} {sp : Sp} (F : FnOk P w K mg base CX j f fd ps sp) (h : j ≤ k) :
    FnOk P w K mg base CX k f fd ps sp := ⟨F.len, fun A outer s H args us vs Q E hr => F.run A outer s H args us vs Q E (hr.mono h)⟩
theorem Env0.in1 {P : Program} {w : World} {K : PySem.W.Frag} {mg : Str → Option Value} {base : Heap} {A : Around} {outer : List Env} {s : Shared} {H : Hp} (e : Env0 P w K mg base A outer s H) :
    Env0 P w K mg base A.in1 outer s H := ⟨e.frames, e.mod, e.bs, e.bsz, e.funs, e.frf, e.hok, e.bare⟩
section
variable {X : Cx} {pins : List (Addr × Obj)} {σ : St} {H : Hp} {s s' : Shared}
theorem Inv.env0 (I : Inv X pins σ H s) : Env0 X.prog X.w X.K X.mg X.base X.A X.stack s H :=
  ⟨I.ok.frames, I.ok.mod, I.bs, Nat.le_trans I.ok.bsz I.sz, I.stack, I.stkFree, I.hok, I.bare⟩
theorem Inv.after {Q : VK} {u : Value} (I : Inv X pins σ H s) (h : CE X.stack X.prog X.w H s Q u s') : EP X pins σ Q u s' := by
  obtain ⟨v, H', os, bare, un, hok, r, q⟩ := h
  obtain ⟨hh, g, d, t, os'⟩ := s'
  obtain rfl : os' = s.os := os
  exact ⟨v, H', I.call (h' := hh) (g' := g) (d' := d) (t' := t) (ch := []) un hok bare (fun b z => absurd z (by simp)), r, q⟩
end
def tCall (sp : Sp) (dvs : List V) (E : XK) (t : TA) : TE := fun σ H Q => t σ H fun vs H1 => sp (vs ++ dvs) H1 Q E
def tMeth (C : Addr) (m : Str) (sp : Sp) (dvs : List V) (E : XK) (ta : TE) (t : TA) : TE := fun σ H Q => ta σ H fun x H1 => ∃ a dx fs, x = .ref a ∧ H1 a = some (.ins C dx fs) ∧ fs.lookup m = none ∧
  t σ H1 fun vs H2 => sp (x :: (vs ++ dvs)) H2 Q E
def Binds (K : PySem.W.Frag) (fd : FuncData) (ps : List Str) (ds : List Value) : Prop :=
  ∀ (s : Shared) (us : List Value), K.In s.heap → (us ++ ds).length = ps.length → BindsTo s fd ⟨us, []⟩ (ps.zip (us ++ ds))
theorem Binds.all {K : PySem.W.Frag} {fd : FuncData} {ps : List Str} (h : ∀ us : List Value, us.length = ps.length → bindArgs fd ⟨us, []⟩ = pure (ps.zip us)) : Binds K fd ps [] := fun s us _ hl => by
  rw [List.append_nil] at hl ⊢
  exact .of_eq (h us hl)
def Passes (CX : CXT) (X : Cx) (E : XK) : Prop := ∀ (pins : List (Addr × Obj)) (σ : St) (H : Hp) (s : Shared) (e : Value) (s' : Shared), Inv X pins σ H s → CX X.stack H s E e s' → X.xe e s'
section
variable {X : Cx} {CX : CXT} {k : Nat} {f C : Addr} {fd : FuncData} {ps : List Str} {sp : Sp} {dvs : List V} {ds : List Value} {E : XK} {x m : Str} {p pos apos : Pos} {e o : Expr} {es : List Expr} {ta : TE} {t : TA}
theorem run_fn {pins : List (Addr × Obj)} {σ : St} {H : Hp} {s : Shared} {Q : VK} {us : List Value} {vs : List V} (F : FnOk X.prog X.w X.K X.mg X.base CX k f fd ps sp) (hr : Room k X.A) (hb : Binds X.K fd ps ds) (hd : Vals dvs ds) (hx : Passes CX X E)
    (I : Inv X pins σ H s) (r : Vals vs us) (h : sp (vs ++ dvs) H Q E) : wpAny (model X.prog X.w) X.A (call (.ref f) us) (EP X pins σ Q) X.xe s := by
  have r2 : Vals (vs ++ dvs) (us ++ ds) := r.append hd
  have hl : (us ++ ds).length = ps.length := by rw [← r2.length]; exact F.len _ _ _ _ h
  refine wpAny_call (codeAny_mono (F.run X.A X.stack s H ⟨us, []⟩ (us ++ ds) (vs ++ dvs) Q E hr I.env0 (hb s us I.kIn hl) r2 h) fun r s' hq => ?_)
  cases r with
  | error e => exact hx pins σ H s e s' I hq
  | ok fl =>
    cases fl with
    | ret u => exact I.after hq
    | next => exact False.elim hq
    | brk => exact False.elim hq
    | cont => exact False.elim hq
theorem pe_call (F : FnOk X.prog X.w X.K X.mg X.base CX k f fd ps sp) (hr : Room k X.A) (hg : Gl X x) (hm : X.mg x = some (.ref f)) (hk : PySem.W.keepIn X.K (.ref f) = true) (hb : Binds X.K fd ps ds) (hd : Vals dvs ds) (hx : Passes CX X E)
    (ha : PA X (e :: es) t) (hdb : (x == ("__debug__" : Str)) = false := by decide) (he : starEach (e :: es) X.env = (false, eval e X.env) :: starEach es X.env := by rfl) (hpl : (backTo pos (starEach es X.env)).any (·.1) = false := by rfl) :
    PE X (.Call (.Name x p) (e :: es) [] pos) (tCall sp dvs E t) := by
  intro pins s σ H Q I h
  refine wpAny_Call_Name_kw (ld_glob I hg hm ?_ hdb)
  refine PySem.W.callWith_K (h₀ := X.base) I.ok.mod.kin hk (thn (ha pos pins s σ H _ I h) fun us s1 ⟨vs, H1, I1, r, q⟩ => ⟨I1.kIn, ?_⟩) he hpl
  exact run_fn F hr hb hd hx I1 r q
theorem pe_meth {pl : Sem Bool} (he : PE X o ta) (c : Cls X.K C) (hm : Meth X.K C m f) (F : FnOk X.prog X.w X.K X.mg X.base CX k f fd ps sp) (hr : Room k X.A) (hb : Binds X.K fd ps ds) (hd : Vals dvs ds) (hx : Passes CX X E) (ha : PA X (e :: es) t)
    (hst : starEach (e :: es) X.env = (false, eval e X.env) :: starEach es X.env := by rfl) (hpl : (backTo pos (starEach es X.env)).any (·.1) = false := by rfl)
    (ht : eval (.Call (.Attribute o m apos) (e :: es) [] pos) X.env = (do
      let ov ← eval o X.env
      standAt apos.atName
      let (f, first) ← holding [ov] (getMethod ov m pl)
      callWith pos f first (backTo pos (starEach (e :: es) X.env)) (backToKw pos (keywordEach [] X.env))) := by rfl) :
    PE X (.Call (.Attribute o m apos) (e :: es) [] pos) (tMeth C m sp dvs E ta t) := by
  intro pins s σ H Q I h
  refine PySem.W.methodCall_KW (pl := pl) (thn (he pins s σ H _ I h) fun u s1 ⟨x, H1, I1, rx, a, dx, fs, ex, ea, l, q⟩ => ?_) ht
  subst ex
  obtain rfl : u = Value.ref a := rx
  refine getmeth_ok I1 ea c hm l ?_
  refine PySem.W.callWith_K (first := [.ref a]) (h₀ := X.base) I.ok.mod.kin hm.kp (thn (ha pos pins s1 σ H1 _ I1 q) fun us s2 ⟨vs, H2, I2, r, q2⟩ => ⟨I2.kIn, ?_⟩) hst hpl
  exact run_fn (us := .ref a :: us) (vs := .ref a :: vs) F hr hb hd hx I2 (.cons rfl r) q2
structure Mk (K : PySem.W.Frag) (C f : Addr) : Prop where
  makes : PySem.W.makesIn K C = true
  init : PySem.W.findIn K (.ref C) "__init__" = some (some (.ref f))
  fn : PySem.W.isFn K (.ref f) = true
  kp : PySem.W.keepIn K (.ref C) = true
end
section
variable {X : Cx} {CX : CXT} {k : Nat} {f C : Addr} {fd : FuncData} {ps ks : List Str} {sp : Sp} {E : XK} {x m : Str} {p pos apos kpos : Pos} {e o : Expr} {es : List Expr} {kws : List Keyword} {te ta : TE} {t tk : TA} {nm : Option Str}
structure KBinds (K : PySem.W.Frag) (fd : FuncData) (ps ks : List Str) (g : List Value → List Value → List Value) (gV : List V → List V → List V) : Prop where
  to : ∀ (s : Shared) (us ws : List Value), K.In s.heap → (g us ws).length = ps.length → BindsTo s fd ⟨us, ks.zip ws⟩ (ps.zip (g us ws))
  rel : ∀ {vs : List V} {us : List Value} {zs : List V} {ws : List Value}, Vals vs us → Vals zs ws → Vals (gV vs zs) (g us ws)
variable {g : List Value → List Value → List Value} {gV : List V → List V → List V}
end
structure FnScope (N P : List Str) (sc : Scope) : Prop where
  kind : sc.kind = .function
  co : sc.isCoroutine = false
  gen : sc.isGenerator = false
  nd : N.Nodup
  pre : N.take P.length = P
  par : ∀ x ∈ P, sc.names.lookup x = some .local ∨ sc.names.lookup x = some .cell
  nofree : ∀ y ∈ sc.names, y.2 ≠ .free
theorem bindL_out {kindOf : Str → Option NameKind} {x : Str} : ∀ {binds : List (Str × Value)} {m : Str → Option Value}, (∀ v, (x, v) ∉ binds) → bindL kindOf binds m x = m x
  | [], _, _ => rfl
  | (n, v) :: r, m, h => by
    unfold bindL
    rw [bindL_out fun w hw => h w (List.mem_cons_of_mem _ hw)]
    split
    · have : x ≠ n := by rintro rfl; exact h v List.mem_cons_self
      simp [this]
    · rfl
theorem bindC_out {kindOf : Str → Option NameKind} {x : Str} : ∀ {binds : List (Str × Value)} {m : Str → Option Value}, (∀ v, (x, v) ∉ binds) → bindC kindOf binds m x = m x
  | [], _, _ => rfl
  | (n, v) :: r, m, h => by
    unfold bindC
    rw [bindC_out fun w hw => h w (List.mem_cons_of_mem _ hw)]
    split
    · rfl
    · have : x ≠ n := by rintro rfl; exact h v List.mem_cons_self
      simp [this]
theorem bindL_get {kindOf : Str → Option NameKind} {x : Str} {v : Value} : ∀ {P : List Str} {vs : List Value} {i : Nat} {m : Str → Option Value}, P.Nodup → P[i]? = some x → vs[i]? = some v → kindOf x = some .local →
    bindL kindOf (P.zip vs) m x = some v
  | [], _, _, _, _, h, _, _ => by simp at h
  | _ :: _, [], _, _, _, _, h, _ => by simp at h
  | p :: P, w :: vs, 0, m, nd, h1, h2, hk => by
    simp at h1 h2; subst h1; subst h2
    show bindL kindOf ((p, w) :: P.zip vs) m p = _
    unfold bindL
    rw [bindL_out fun v hv => (List.nodup_cons.mp nd).1 (List.of_mem_zip hv).1, if_pos hk]
    simp
  | p :: P, w :: vs, i + 1, m, nd, h1, h2, hk => by
    show bindL kindOf ((p, w) :: P.zip vs) m x = _
    unfold bindL
    exact bindL_get (i := i) (List.nodup_cons.mp nd).2 (by simpa using h1) (by simpa using h2) hk
theorem bindC_get {kindOf : Str → Option NameKind} {x : Str} {v : Value} : ∀ {P : List Str} {vs : List Value} {i : Nat} {m : Str → Option Value}, P.Nodup → P[i]? = some x → vs[i]? = some v → kindOf x ≠ some .local →
    bindC kindOf (P.zip vs) m x = some v
  | [], _, _, _, _, h, _, _ => by simp at h
  | _ :: _, [], _, _, _, _, h, _ => by simp at h
  | p :: P, w :: vs, 0, m, nd, h1, h2, hk => by
    simp at h1 h2; subst h1; subst h2
    show bindC kindOf ((p, w) :: P.zip vs) m p = _
    unfold bindC
    rw [bindC_out fun v hv => (List.nodup_cons.mp nd).1 (List.of_mem_zip hv).1, if_neg hk]
    simp
  | p :: P, w :: vs, i + 1, m, nd, h1, h2, hk => by
    show bindC kindOf ((p, w) :: P.zip vs) m x = _
    unfold bindC
    exact bindC_get (i := i) (List.nodup_cons.mp nd).2 (by simpa using h1) (by simpa using h2) hk
def start (N : List Str) (vs : List V) : St := vs.map some ++ List.replicate (N.length - vs.length) none
def cxOf (CX : CXT) (P : Program) (w : World) (K : PySem.W.Frag) (mg : Str → Option Value) (base : Heap) (N : List Str) (qual : Str) (scope : Scope) (f : Addr) (cd : Value) (A : Around) (outer : List Env) (s : Shared) (H : Hp) (E : XK) : Cx where
  prog := P
  w := w
  K := K
  mg := mg
  base := base
  A := A.deeper (envOfC qual scope s.heap.objs.size f cd)
  N := N
  s₀ := s
  H₀ := H
  env := envOfC qual scope s.heap.objs.size f cd
  outer := outer
  stack := envOfC qual scope s.heap.objs.size f cd :: outer
  ex := []
  calm := true
  fn := fun _ => true
  pn := []
  xe := fun e s' => wpAny (model P w) (A.deeper (envOfC qual scope s.heap.objs.size f cd)) (leaving (envOfC qual scope s.heap.objs.size f cd) e) (fun _ s'' => CX outer H s E e s'') (fun e' s'' => CX outer H s E e' s'') s'
theorem cell_has {sc : Scope} {n : Nat} {x : Str} (h : sc.names.lookup x = some .cell) : ∃ c, (cellsFrom n sc.names []).lookup x = some c := by
  have q := PySem.W.cellsFrom_some sc.names n [] (.inl h)
  exact Option.isSome_iff_exists.mp q
theorem inv_start {CX : CXT} {P : Program} {w : World} {K : PySem.W.Frag} {mg : Str → Option Value} {base : Heap} {N ps : List Str} {qual : Str} {scope : Scope} {f : Addr} {cd : Value} {A : Around} {outer : List Env} {s s1 : Shared} {H : Hp} {E : XK} {us : List Value} {vs : List V}
    (S : FnScope N ps scope) (hd : A.handled = none) (e0 : Env0 P w K mg base A outer s H) (hl : vs.length = ps.length) (r : Vals vs us)
    (x : InCallC s s.heap.objs.size (bindL (envOfC qual scope s.heap.objs.size f cd).kindOf (ps.zip us) fun _ => none) (cellsFrom (s.heap.objs.size + 1) scope.names []) (bindC (envOfC qual scope s.heap.objs.size f cd).kindOf (ps.zip us) fun _ => none) s1) :
    Inv (cxOf CX P w K mg base N qual scope f cd A outer s H E) [] (start N vs) H s1 := by
  have hpl : ps.length ≤ N.length := by have := congrArg List.length S.pre; rw [List.length_take] at this; omega
  obtain ⟨h1, tk, rfl, hk⟩ := x.done
  have noA : ∀ b : Addr, b ∉ (cxOf CX P w K mg base N qual scope f cd A outer s H E).ex := fun b z => absurd (show b ∈ ([] : List Addr) from z) (by simp)
  refine ⟨⟨e0.mod, S.kind, rfl, rfl, Nat.le_refl _, fun y z c h1 h2 => ?_, fun y hy => ?_, fun y c _ h => ?_, fun _ => hd, Around.frames_deeper e0.frames, .inr ⟨rfl, rfl⟩, fun b z => absurd z (noA b), e0.bs, e0.bsz, fun b _ _ => noA b, fun b z => absurd z (noA b), e0.funs, e0.frf⟩,
    rfl, e0.bare, Un.kept hk, ⟨_, x.toInCall.ns, fun i y v h1 h2 h3 => ?_⟩, fun y c h => ⟨_, x.cell y c h⟩, e0.hok.fresh (Nat.le_refl _), fun y c h => ?_, fun p hp => absurd (show p ∈ ([] : List (Addr × Obj)) from hp) (by simp), e0.hok.kept hk, ?_⟩
  · exact name_of_addr x.apart (PySem.mem_of_lookup h1) (PySem.mem_of_lookup h2)
  · have hy : scope.names.lookup y = some .cell ∨ scope.names.lookup y = some .free := hy
    rcases hy with hy | hy
    · exact cell_has hy
    · exact absurd rfl (S.nofree _ (PySem.mem_of_lookup hy))
  · exact Nat.le_of_lt (x.above y c (PySem.mem_of_lookup h))
  · have hi : i < vs.length := by
      unfold start at h2
      by_cases hi : i < vs.length
      · exact hi
      · rw [List.getElem?_append_right (by simpa using hi)] at h2
        rw [List.getElem?_replicate] at h2
        split at h2 <;> cases h2
    have ha : vs[i]? = some v := by
      unfold start at h2
      rw [List.getElem?_append_left (by simpa using hi), List.getElem?_map] at h2
      cases e : vs[i]? with
      | none => rw [e] at h2; cases h2
      | some a => rw [e] at h2; cases h2; rfl
    obtain ⟨u, hu, rv⟩ := r.get ha
    have hp : ps[i]? = some y := by
      rw [← S.pre, List.getElem?_take_of_lt (by omega)]; exact h1
    have ndP : ps.Nodup := by rw [← S.pre]; exact S.nd.sublist (List.take_sublist _ _)
    refine ⟨u, rv, ?_⟩
    rcases S.par y (List.mem_of_getElem? hp) with k | k
    · exact .inl ⟨k, bindL_get ndP hp hu k⟩
    · obtain ⟨c, e⟩ := cell_has (n := s.heap.objs.size + 1) k
      refine .inr ⟨.inl k, c, e, ?_⟩
      have q := x.cell y c e
      rw [bindC_get ndP hp hu (by show scope.names.lookup y ≠ _; rw [k]; decide)] at q
      exact q
  · exact e0.hok.fresh (Nat.le_of_lt (x.above y c (PySem.mem_of_lookup h)))
  · unfold start
    show _ = N.length
    rw [List.length_append, List.length_map, List.length_replicate]
    omega
theorem fn_of {CX : CXT} {P : Program} {w : World} {K : PySem.W.Frag} {mg : Str → Option Value} {base : Heap} {k : Nat} {f : Addr} {name qual : Str} {params : Arguments} {body : List Stmt} {scope : Scope} {dV kV doc pm cdv ct oc : Value} {an od : Option Addr}
    {osl : Array (Option Value)} {N ps : List Str} {sp : Sp} (lk : K.lookup f = some ⟨oc, od, .func (PySem.W.fnOf name qual params body scope dV kV doc pm an cdv ct), osl⟩) (hcd : PySem.W.codeIn K cdv qual = true) (S : FnScope N ps scope)
    (len : ∀ vs H Q E, sp vs H Q E → vs.length = ps.length)
    (hbody : ∀ (A : Around) (outer : List Env) (s : Shared) (H : Hp) (vs : List V) (Q : VK) (E : XK), Room k (A.deeper (envOfC qual scope s.heap.objs.size f cdv)) → sp vs H Q E →
      ∃ t, PSs (cxOf CX P w K mg base N qual scope f cdv A outer s H E) body t ∧ t { nx := fun _ H' => Q .non H', rt := Q } (start N vs) H) :
    FnOk P w K mg base CX (k + 1) f (PySem.W.fnOf name qual params body scope dV kV doc pm an cdv ct) ps sp := by
  refine ⟨len, fun A outer s H args us vs Q E hr e0 hb r hsp => ?_⟩
  have hl := len _ _ _ _ hsp
  have KX : K.In s.heap := e0.mod.kin.keeps fun b o e => (e0.bs b o e).1
  have lim : s.heap.NoLimit := e0.mod.nolimit.keeps fun b o e => (e0.bs b o e).1
  have hkind : ∀ y ∈ ps.zip us, scope.names.lookup y.1 = some .local ∨ (scope.names.lookup y.1 = some .cell ∧ ((cellsFrom (s.heap.objs.size + 1) scope.names []).lookup y.1).isSome = true) := fun ⟨n, v⟩ hy => by
    rcases S.par n (List.of_mem_zip hy).1 with q | q
    · exact .inl q
    · exact .inr ⟨q, PySem.W.cellsFrom_some _ _ _ (.inl q)⟩
  refine codeAny_call_function hr.depth (KX _ _ lk) rfl S.co S.gen rfl (PySem.W.codeRec_of KX hcd) (hb _ _ _ _ ?_)
  refine wpAny_newFunctionEnv_cells S.kind hkind fun env he s1 x => ?_
  subst he
  refine ⟨lim.keeps x.toInCall.keep, codeAny_func ?_⟩
  obtain ⟨t, ht, hq⟩ := hbody A outer s H vs Q E (hr.deeper _) hsp
  have I : Inv (cxOf CX P w K mg base N qual scope f cdv A outer s H E) [] (start N vs) H s1 := inv_start S hr.hd e0 hl r x
  refine wpAny_mono (ht [] s1 (start N vs) H _ I hq) (fun fl s' hs => ?_) fun e s' hs => hs
  have fin : ∀ {σ' : St} {H' : Hp} {v : V} {u : Value}, Inv (cxOf CX P w K mg base N qual scope f cdv A outer s H E) [] σ' H' s' → RelV v u → Q v H' → CE outer P w H s Q u s' :=
    fun {σ' H' v u} J rv q => ⟨v, H', J.os, J.bare, J.base, J.hok, rv, q⟩
  cases fl with
  | ret u =>
    obtain ⟨v, σ', H', J, rv, q⟩ := hs
    exact fin J rv q
  | next =>
    obtain ⟨σ', H', J, q⟩ := hs
    exact fin (v := V.non) (u := Value.none) J rfl q
  | brk =>
    obtain ⟨_, _, _, q⟩ := hs
    exact False.elim q
  | cont =>
    obtain ⟨_, _, _, q⟩ := hs
    exact False.elim q
end L2
namespace L2
open PySem PySem.Spec PyProof.Rows
section
variable {X : Cx} {x : Str} {p pos : Pos} {e : Expr} {es : List Expr} {t : TA} {id T : String} {r : List V → Hp → VK → Prop}
def tCB (r : List V → Hp → VK → Prop) (t : TA) : TE := fun σ H Q => t σ H fun vs H1 => r vs H1 Q
theorem pe_callB (hc : CallR X (.builtin id) r) (hg : Gl X x) (hm : X.mg x = none) (hv : bootBuiltins x = some (.builtin id)) (ha : PA X (e :: es) t) (hn : x ≠ "__name__" := by decide) (hdb : (x == ("__debug__" : Str)) = false := by decide)
    (he : starEach (e :: es) X.env = (false, eval e X.env) :: starEach es X.env := by rfl) (hpl : (backTo pos (starEach es X.env)).any (·.1) = false := by rfl) : PE X (.Call (.Name x p) (e :: es) [] pos) (tCB r t) := by
  intro pins s σ H Q I h
  refine wpAny_Call_Name_kw (ld_blt I hg hm hv ?_ hn hdb)
  exact PyProof.Rows.callWith_builtin1 (thn (ha pos pins s σ H _ I h) fun us s1 ⟨vs, H1, I1, r1, q1⟩ => hc pins s1 σ H1 vs us Q I1 r1 q1) he hpl
theorem pe_callTy (hc : CallR X (.type T) r) (hg : Gl X x) (hm : X.mg x = none) (hv : bootBuiltins x = some (.type T)) (ha : PA X (e :: es) t) (hn : x ≠ "__name__" := by decide) (hdb : (x == ("__debug__" : Str)) = false := by decide)
    (he : starEach (e :: es) X.env = (false, eval e X.env) :: starEach es X.env := by rfl) (hpl : (backTo pos (starEach es X.env)).any (·.1) = false := by rfl) : PE X (.Call (.Name x p) (e :: es) [] pos) (tCB r t) := by
  intro pins s σ H Q I h
  refine wpAny_Call_Name_kw (ld_blt I hg hm hv ?_ hn hdb)
  exact PyProof.Rows.callWith_type1 (thn (ha pos pins s σ H _ I h) fun us s1 ⟨vs, H1, I1, r1, q1⟩ => hc pins s1 σ H1 vs us Q I1 r1 q1) he hpl
end
end L2
namespace HT
open PySem PyProof.Rows
section
open PySem.SeqAt
open PySem.AutoSeq1 (wpAny_loadPart')
open PySem.MeetsSeq PySem.MeetsSeq2 PySem.MeetsSeq3
end
section
variable {prog : Program} {w : World} {A : Around} {E : Value → Shared → Prop} {s : Shared}
def sIx (n d : Nat) : Option Int → Nat
  | none => d
  | some v => if v < 0 then (v + (n : Int)).toNat else min v.toNat n
theorem sIx_none (n d : Nat) : sIx n d none = d := rfl
theorem sIx_nat (n d k : Nat) : sIx n d (some (k : Int)) = min k n := by
  show (if (k : Int) < 0 then ((k : Int) + (n : Int)).toNat else min (k : Int).toNat n) = min k n
  rw [if_neg (by omega), Int.toNat_natCast]
end
end HT
namespace L2
open PySem PySem.Spec PyProof.Rows
abbrev TO := St → Hp → (Option Int → Hp → Prop) → Prop
def PO (X : Cx) (e : Option Expr) (t : TO) : Prop :=
  ∀ (pins : List (Addr × Obj)) (s : Shared) (σ : St) (H : Hp) (Q : Option Int → Hp → Prop), Inv X pins σ H s → t σ H Q →
    wpAny (model X.prog X.w) X.A (evalPart e X.env) (fun u s' => ∃ o H', Inv X pins σ H' s' ∧ IsPart u o ∧ Q o H') X.xe s
def tNoPart : TO := fun _ H Q => Q none H
def tPart (t : TE) : TO := fun σ H Q => t σ H fun x H1 => ∃ i, x = .int i ∧ Q (some i) H1
theorem intsAre_of {ns : List Int} : ∀ {us : List Value}, Vals (ns.map V.int) us → IntsAre us ns := by
  induction ns with
  | nil => intro us r; rw [List.map_nil] at r; cases r; exact .nil
  | cons n ns ih =>
    intro us r
    rw [List.map_cons] at r
    cases r with
    | cons r1 r2 =>
      obtain ⟨t, e⟩ := r1
      subst e
      exact .cons n t (ih r2)
section
variable {X : Cx} {e : Expr} {te : TE} {lo hi : Option Expr} {tl th : TO} {pos p2 : Pos}
theorem po_none : PO X none tNoPart := by
  intro pins s σ H Q I h
  rw [evalPart_none]
  exact wpAny_pure ⟨none, H, I, .none, h⟩
theorem po_some (h : PE X e te) : PO X (some e) (tPart te) := by
  intro pins s σ H Q I hw
  rw [evalPart_some]
  refine thn (h pins s σ H _ I hw) fun u s1 ⟨x, H1, I1, r1, q1⟩ => ?_
  obtain ⟨i, rfl, q⟩ := q1
  obtain ⟨t, rfl⟩ := r1
  exact ⟨some i, H1, I1, .int i t, q⟩
def SlR (X : Cx) (r : V → Option Int → Option Int → Hp → VK → Prop) : Prop :=
  ∀ (pins : List (Addr × Obj)) (s : Shared) (σ : St) (H : Hp) (x : V) (v vl vu : Value) (lo hi : Option Int) (sl : Addr) (Q : VK), Inv X pins σ H s → RelV x v → s.heap.IsSliceOf sl vl vu .none → IsPart vl lo → IsPart vu hi → r x lo hi H Q →
    ∃ T id, typeLookup (.type T) "__getitem__" = pure (some (.builtin id)) ∧ s.TypeIs v T ∧ wpAny (model X.prog X.w) X.A (getItem v (.ref sl)) (EP X pins σ Q) X.xe s
def tSl (r : V → Option Int → Option Int → Hp → VK → Prop) (te : TE) (tl th : TO) : TE := fun σ H Q => te σ H fun x H1 => tl σ H1 fun l H2 => th σ H2 fun u H3 => r x l u H3 Q
theorem pe_slice {r : V → Option Int → Option Int → Hp → VK → Prop} (hr : SlR X r) (he : PE X e te) (hl : PO X lo tl) (hu : PO X hi th) : PE X (.Subscript e (.Slice lo hi none p2) pos) (tSl r te tl th) := by
  intro pins s σ H Q I h
  refine Subscript_ (thn (he pins s σ H _ I h) fun v s1 ⟨x, H1, I1, r1, q1⟩ => ?_)
  refine wpAny_Slice (thn (hl pins s1 σ H1 _ I1 q1) fun vl s2 ⟨l, H2, I2, pl, q2⟩ => thn (hu pins s2 σ H2 _ I2 q2) fun vu s3 ⟨u, H3, I3, pu, q3⟩ => ?_)
  rw [evalPart_none]
  refine wpAny_pure ?_
  have I4 : Inv X pins σ H3 { s3 with heap := s3.heap.push { cls := .type "slice", data := .fields #[vl, vu, .none] } } := I3.kept (t' := s3.toks) fun b ob q => Heap.get?_push_of_some _ q
  obtain ⟨T, id, hT, ht, hg⟩ := hr pins { s3 with heap := s3.heap.push { cls := .type "slice", data := .fields #[vl, vu, .none] } } σ H3 x v vl vu l u s3.heap.objs.size Q I4 r1 (Heap.IsSliceOf.new ..) pl pu q3
  show wpAny (model X.prog X.w) X.A (subscriptTail e (.Slice lo hi none p2) v (.ref s3.heap.objs.size)) (EP X pins σ Q) X.xe { s3 with heap := s3.heap.push { cls := .type "slice", data := .fields #[vl, vu, .none] } }
  exact tail_any (ops := [.ref s3.heap.objs.size, v]) ht hT hg (by with_unfolding_all rfl)
def cutV (xs : List V) (lo hi : Option Int) : List V := (xs.drop (HT.sIx xs.length 0 lo)).take (HT.sIx xs.length xs.length hi - HT.sIx xs.length 0 lo)
theorem cutV_length (xs : List V) (lo hi : Option Int) : (cutV xs lo hi).length ≤ xs.length := by
  unfold cutV
  rw [List.length_take, List.length_drop]
  omega
end
end L2
namespace L2
open PySem PySem.Spec PyProof.Rows
def ixN (n : Nat) (i : Int) : Option Nat := if 0 ≤ i then (if i < n then some i.toNat else none) else if -(n : Int) ≤ i then some (i + n).toNat else none
def atI {α : Type} (xs : List α) (i : Int) : Option α := (ixN xs.length i).bind fun j => xs[j]?
theorem ixN_seq {n : Nat} {i : Int} {j : Nat} (h : ixN n i = some j) : seqIndex? i n = some j ∧ j < n ∧ -(n : Int) ≤ i ∧ i < n := by
  unfold ixN at h
  by_cases h0 : 0 ≤ i
  · rw [if_pos h0] at h
    by_cases h1 : i < n
    · rw [if_pos h1] at h
      have e : i.toNat = j := Option.some.inj h
      exact ⟨by rw [seqIndex_of h0 h1, e], by omega, by omega, h1⟩
    · rw [if_neg h1] at h; cases h
  · rw [if_neg h0] at h
    by_cases h1 : -(n : Int) ≤ i
    · rw [if_pos h1] at h
      have e : (i + n).toNat = j := Option.some.inj h
      exact ⟨by rw [seqIndex_neg (by omega) h1, e], by omega, h1, by omega⟩
    · rw [if_neg h1] at h; cases h
theorem atI_get {α : Type} {xs : List α} {i : Int} {v : α} (h : atI xs i = some v) : ∃ j, seqIndex? i xs.length = some j ∧ xs[j]? = some v ∧ j < xs.length ∧ -(xs.length : Int) ≤ i ∧ i < xs.length := by
  unfold atI at h
  cases e : ixN xs.length i with
  | none => rw [e] at h; cases h
  | some j =>
    rw [e] at h
    obtain ⟨h1, h2, h3, h4⟩ := ixN_seq e
    exact ⟨j, h1, h, h2, h3, h4⟩
theorem atI_nat {α : Type} {xs : List α} {j : Nat} {v : α} (h : xs[j]? = some v) : atI xs (j : Int) = some v := by
  have hj : j < xs.length := (List.getElem?_eq_some_iff.mp h).1
  have e : ixN xs.length (j : Int) = some j := by
    unfold ixN
    rw [if_pos (by omega), if_pos (by omega)]; simp
  unfold atI; rw [e]; exact h
theorem atI_last {α : Type} (xs : List α) (v : α) : atI (xs ++ [v]) (-1) = some v := by
  have hl : (xs ++ [v]).length = xs.length + 1 := by simp
  have e : ixN (xs ++ [v]).length (-1) = some xs.length := by
    unfold ixN
    rw [hl, if_neg (by decide), if_pos (by omega)]
    congr 1
    omega
  unfold atI
  rw [e]
  show (xs ++ [v])[xs.length]? = some v
  simp
def PlainIx (b : Expr) : Prop := ∀ o i, subscripted b false o i = operate [o, i] (getItem o i)
def IxR (X : Cx) (r : R2) : Prop :=
  ∀ (value slice : Expr) (pins : List (Addr × Obj)) (s : Shared) (σ : St) (H : Hp) (x y : V) (v u : Value) (Q : VK), Inv X pins σ H s → RelV x v → RelV y u → r x y H Q →
    subscripted slice false v u = operate [v, u] (getItem v u) → wpAny (model X.prog X.w) X.A (subscriptTail value slice v u) (EP X pins σ Q) X.xe s
def MtR (X : Cx) (id : String) (r : V → List V → Hp → VK → Prop) : Prop :=
  ∀ (pins : List (Addr × Obj)) (s : Shared) (σ : St) (H : Hp) (x : V) (xs : List V) (v : Value) (us : List Value) (Q : VK), Inv X pins σ H s → RelV x v → Vals xs us → r x xs H Q →
    wpAny (model X.prog X.w) X.A (call (.builtin id) (v :: us)) (EP X pins σ Q) X.xe s
section
variable {X : Cx} {a b : Expr} {ta tb : TE} {pos : Pos}
theorem pe_ix {r : R2} (hr : IxR X r) (ha : PE X a ta) (hb : PE X b tb) (hs : PlainIx b) : PE X (.Subscript a b pos) (tOp r ta tb) := by
  intro pins s σ H Q I h
  exact Subscript_ (binT ha hb I h fun v u s2 x y H2 I2 rx ry q => hr a b pins s2 σ H2 x y v u Q I2 rx ry q (hs _ _))
def rIxL (K : PySem.W.Frag) : R2 := fun x y H Q => ∃ p xs i v, x = .ref p ∧ y = .int i ∧ SqL K H p xs ∧ atI xs i = some v ∧ Q v H
def rIxT (K : PySem.W.Frag) : R2 := fun x y H Q => ∃ p xs i v, x = .ref p ∧ y = .int i ∧ SqT K H p xs ∧ atI xs i = some v ∧ Q v H
theorem ix_list : IxR X (rIxL X.K) := by
  intro value slice pins s σ H x y v u Q I rx ry h hs
  obtain ⟨p, xs, i, z, rfl, rfl, hq, he, q⟩ := h
  cases rx
  obtain ⟨t, rfl⟩ := ry
  obtain ⟨its, r, pl, hz⟩ := I.list hq
  obtain ⟨j, h1, h2, h3, h4, h5⟩ := atI_get he
  obtain ⟨w, ew, rw'⟩ := r.get h2
  have hl := r.length
  have hn := line63
  have fin : EP X pins σ Q w s := ⟨z, H, I, rw', q⟩
  by_cases h0 : 0 ≤ i
  · have hj : i.toNat = j := by
      rw [seqIndex_of h0 h5] at h1
      exact Option.some.inj h1
    exact item_listR pl.isList h0 (by omega) (by rw [hj]; simpa using ew) fin hs
  · have hj : (i + (its.toArray.size : Int)).toNat = j := by
      rw [seqIndex_neg (by omega) h4] at h1
      rw [List.size_toArray, ← hl]
      exact Option.some.inj h1
    exact subscriptTail_builtinR (x := w) pl.isList.typeIs slot_list_getitem.lookup
      (wpAny_getItem_list_neg (Q := fun r s' => r = w ∧ EP X pins σ Q r s') pl.isList (by omega) (by rw [List.size_toArray] <;> omega) (by omega) (by rw [hj]; simpa using ew) ⟨rfl, fin⟩) hs
theorem ix_tup : IxR X (rIxT X.K) := by
  intro value slice pins s σ H x y v u Q I rx ry h hs
  obtain ⟨p, xs, i, z, rfl, rfl, hq, he, q⟩ := h
  cases rx
  obtain ⟨t, rfl⟩ := ry
  obtain ⟨its, r, pl, hz⟩ := I.tuple hq
  obtain ⟨j, h1, h2, h3, h4, h5⟩ := atI_get he
  obtain ⟨w, ew, rw'⟩ := r.get h2
  have hl := r.length
  have hn := line63
  have fin : EP X pins σ Q w s := ⟨z, H, I, rw', q⟩
  exact subscriptTail_builtinR (x := w) pl.typeIs slot_tuple_getitem.lookup
    (getItem_tuple (j := j) (Q := fun r s' => r = w ∧ EP X pins σ Q r s') pl (by omega) (by omega) (by rw [List.size_toArray, ← hl]; exact h1) (by simpa using ew) ⟨rfl, fin⟩) hs
theorem mapSeq_set (its : List Value) (n j : Nat) (u : Value) : Obj.mapSeq (·.setIfInBounds j u) { cls := .type "list", data := .seq its.toArray n } = { cls := .type "list", data := .seq (its.set j u).toArray n } := by
  simp [Obj.mapSeq]
theorem Inv.lst {pins : List (Addr × Obj)} {σ : St} {H : Hp} {s : Shared} {p : Addr} {xs : List V} (I : Inv X pins σ H s) (h : H p = some (.lst xs)) :
    ∃ (its : List Value) (n : Nat), Vals xs its ∧ s.heap.get? p = some { cls := .type "list", data := .seq its.toArray n } ∧ xs.length ≤ sizeLine := by
  obtain ⟨z, its, n, r, e⟩ := I.hok p _ h
  exact ⟨its, n, r, e, z⟩
theorem Inv.lstUpd {pins : List (Addr × Obj)} {σ : St} {H : Hp} {s : Shared} {p : Addr} {xs ys : List V} {its its' : List Value} {n n' : Nat} {f : Obj → Obj} (I : Inv X pins σ H s) (h : H p = some (.lst xs))
    (ho : s.heap.get? p = some { cls := .type "list", data := .seq its.toArray n }) (hf : f { cls := .type "list", data := .seq its.toArray n } = { cls := .type "list", data := .seq its'.toArray n' }) (r : Vals ys its') (hz : ys.length ≤ sizeLine) (t : Nat) :
    Inv X pins σ (upd H p (.lst ys)) { s with heap := s.heap.update p f, toks := t } := by
  have e : (s.heap.update p f).get? p = some { cls := .type "list", data := .seq its'.toArray n' } := by
    rw [Heap.get?_update_self f ho (by rw [hf] <;> rfl), hf]
  refine I.write (x := p) (e := p) (by rw [h]; trivial) (.inl rfl) (fun b u hb q => (Heap.get?_update_other _ _ (Ne.symm hb)).trans q) ⟨_, e⟩ ?_
  exact ⟨hz, its', n', r, e⟩
def rSetL : V → V → V → Hp → (Hp → Prop) → Prop := fun o i v H Q => ∃ p xs k j, o = .ref p ∧ i = .int k ∧ H p = some (.lst xs) ∧ ixN xs.length k = some j ∧ Q (upd H p (.lst (xs.set j v)))
theorem set_list : PSet X rSetL := by
  intro pins s σ H o i v ov iv u Q I ro ri rv h
  obtain ⟨p, xs, k, j, rfl, rfl, hp, hj, q⟩ := h
  cases ro
  obtain ⟨t, rfl⟩ := ri
  obtain ⟨its, n, r, ho, hz⟩ := I.lst hp
  obtain ⟨h1, h2, h3, h4⟩ := ixN_seq hj
  have hl := r.length
  have hn := line63
  have I' : Inv X pins σ (upd H p (.lst (xs.set j v))) { s with heap := s.heap.update p (Obj.mapSeq (·.setIfInBounds j u)) } :=
    I.lstUpd hp ho (mapSeq_set its n j u) (r.set rv j) (by rw [List.length_set]; exact hz) s.toks
  by_cases h0 : 0 ≤ k
  · have hk : k.toNat = j := by
      rw [seqIndex_of h0 h4] at h1
      exact Option.some.inj h1
    exact PySem.W.ki_setAt ho h0 (by omega) (by rw [List.size_toArray, ← hl]; exact h4) (by rw [hk]; exact ⟨_, I', q⟩)
  · have hk : (k + (its.toArray.size : Int)).toNat = j := by
      rw [seqIndex_neg (by omega) h3] at h1
      rw [List.size_toArray, ← hl]
      exact Option.some.inj h1
    exact PySem.W.ki_setBack ho (by omega) (by rw [List.size_toArray, ← hl]; exact h3) (by omega) (by rw [hk]; exact ⟨_, I', q⟩)
theorem slice_bounds (lo hi : Option Int) (n : Nat) : (sliceBounds lo hi none n).1 = ((HT.sIx n 0 lo : Nat) : Int) ∧ (sliceBounds lo hi none n).2.1 = ((HT.sIx n n hi : Nat) : Int) ∧ (sliceBounds lo hi none n).2.2 = 1 := by
  refine ⟨?_, ?_, rfl⟩
  · cases lo with
    | none => simp [sliceBounds, HT.sIx]
    | some i =>
      simp only [sliceBounds, HT.sIx, Option.getD_none, show (1 : Int) > 0 by decide, if_true]
      by_cases h : i < 0
      · simp only [h, if_true] <;> omega
      · simp only [h, if_false] <;> omega
  · cases hi with
    | none => simp [sliceBounds, HT.sIx]
    | some i =>
      simp only [sliceBounds, HT.sIx, Option.getD_none, show (1 : Int) > 0 by decide, if_true]
      by_cases h : i < 0
      · simp only [h, if_true] <;> omega
      · simp only [h, if_false] <;> omega
theorem slicePick_cut (its : List Value) (lo hi : Option Int) : slicePick its.toArray lo hi none = ((its.drop (HT.sIx its.length 0 lo)).take (HT.sIx its.length its.length hi - HT.sIx its.length 0 lo)).toArray := by
  obtain ⟨h1, h2, h3⟩ := slice_bounds lo hi its.toArray.size
  unfold slicePick
  rw [h1, h2, h3]
  simp only [sliceRange_one, pick_run, List.size_toArray] <;> rfl
def rSlL (K : PySem.W.Frag) : V → Option Int → Option Int → Hp → VK → Prop := fun x lo hi H Q => ∃ a xs, x = .ref a ∧ SqL K H a xs ∧ ∀ p, H p = none → Q (.ref p) (upd H p (.lst (cutV xs lo hi)))
theorem sl_list : SlR X (rSlL X.K) := by
  intro pins s σ H x v vl vu lo hi sl Q I rx hs pl pu h
  obtain ⟨a, xs, rfl, hx, q⟩ := h
  cases rx
  obtain ⟨its, r, ht, hz⟩ := I.list hx
  have hlen := r.length
  refine ⟨"list", _, slot_list_getitem.lookup, ht.isList.typeIs, ?_⟩
  refine wpAny_getItem_list_slice ht.isList hs pl pu .none (by simp) ?_ (by rw [List.size_toArray] <;> omega)
  rw [slicePick_cut, ← hlen]
  refine ⟨.ref s.heap.objs.size, _, I.laid (t' := s.toks) (o := .lst (cutV xs lo hi)) (fun b ob q => Heap.get?_push_of_some _ q) (Nat.le_refl _) ?_, rfl, q _ (I.hok.fresh (Nat.le_refl _))⟩
  exact ⟨Nat.le_trans (cutV_length xs lo hi) hz, _, 0, (r.drop (HT.sIx xs.length 0 lo)).take (HT.sIx xs.length xs.length hi - HT.sIx xs.length 0 lo), Heap.get?_push_size _ rfl⟩
def flatV : V → Bool
  | .non => true
  | .bl _ => true
  | .int _ => true
  | .str _ => true
  | _ => false
def eqV : V → V → Bool
  | .non, .non => true
  | .bl a, .bl b => a == b
  | .bl a, .int b => (if a then 1 else 0) == b
  | .int a, .bl b => a == (if b then 1 else 0)
  | .int a, .int b => a == b
  | .str a, .str b => a == b
  | _, _ => false
theorem eqAt_V {A : Around} {s : Shared} {y x : V} {u v : Value} (ry : RelV y u) (rx : RelV x v) (fy : flatV y = true) (fx : flatV x = true) : SeqAt.EqAt A s u v (eqV y x) := by
  cases y with
  | non =>
    cases ry
    cases x with
    | non => cases rx; exact SeqAt.EqAt.same _
    | bl b => cases rx; exact SeqAt.EqAt.none_bool b
    | int b => obtain ⟨t, rfl⟩ := rx; exact SeqAt.EqAt.none_int b t
    | str b => obtain ⟨t, rfl⟩ := rx; exact SeqAt.EqAt.none_str b t
    | _ => exact absurd (show false = true from fx) Bool.false_ne_true
  | bl a =>
    cases ry
    cases x with
    | non => cases rx; exact SeqAt.EqAt.bool_none a
    | bl b => cases rx; exact SeqAt.EqAt.bool_bool a b
    | int b => obtain ⟨t, rfl⟩ := rx; exact SeqAt.EqAt.bool_int a b t
    | str b => obtain ⟨t, rfl⟩ := rx; exact SeqAt.EqAt.bool_str a b t
    | _ => exact absurd (show false = true from fx) Bool.false_ne_true
  | int a =>
    obtain ⟨t', rfl⟩ := ry
    cases x with
    | non => cases rx; exact SeqAt.EqAt.int_none a t'
    | bl b => cases rx; exact SeqAt.EqAt.int_bool a t' b
    | int b => obtain ⟨t, rfl⟩ := rx; exact SeqAt.EqAt.int_int a t' b t
    | str b => obtain ⟨t, rfl⟩ := rx; exact SeqAt.EqAt.int_str a t' b t
    | _ => exact absurd (show false = true from fx) Bool.false_ne_true
  | str a =>
    obtain ⟨t', rfl⟩ := ry
    cases x with
    | non => cases rx; exact SeqAt.EqAt.str_none a t'
    | bl b => cases rx; exact SeqAt.EqAt.str_bool a t' b
    | int b => obtain ⟨t, rfl⟩ := rx; exact SeqAt.EqAt.str_int a t' b t
    | str b => obtain ⟨t, rfl⟩ := rx; exact SeqAt.EqAt.str_str a t' b t
    | _ => exact absurd (show false = true from fx) Bool.false_ne_true
  | _ => exact absurd (show false = true from fy) Bool.false_ne_true
def eqU (x : V) (u : Value) : Bool := match u with
  | .none => eqV .non x
  | .bool b => eqV (.bl b) x
  | .int i _ => eqV (.int i) x
  | .str z _ => eqV (.str z) x
  | _ => false
theorem eqU_of {x y : V} {u : Value} (r : RelV y u) (f : flatV y = true) : eqU x u = eqV y x := by
  cases y with
  | non => cases r; rfl
  | bl b => cases r; rfl
  | int i => obtain ⟨t, rfl⟩ := r; rfl
  | str z => obtain ⟨t, rfl⟩ := r; rfl
  | _ => exact absurd (show false = true from f) Bool.false_ne_true
theorem any_eqU {x : V} : ∀ {xs : List V} {us : List Value}, Vals xs us → xs.all flatV = true → us.any (eqU x) = xs.any fun y => eqV y x
  | _, _, .nil, _ => rfl
  | y :: xs, u :: us, .cons r t, f => by
    rw [List.all_cons, Bool.and_eq_true] at f
    rw [List.any_cons, List.any_cons, eqU_of r f.1, any_eqU t f.2]
theorem mem_eqAt {A : Around} {s : Shared} {x : V} {v : Value} (rx : RelV x v) (fx : flatV x = true) : ∀ {xs : List V} {us : List Value}, Vals xs us → xs.all flatV = true → ∀ u ∈ us, SeqAt.EqAt A s u v (eqU x u)
  | _, _, .nil, _ => fun u hu => by cases hu
  | y :: xs, u :: us, .cons r t, f => fun u' hu => by
    rw [List.all_cons, Bool.and_eq_true] at f
    rcases List.mem_cons.mp hu with rfl | hu
    · rw [eqU_of r f.1]; exact eqAt_V r rx f.1 fx
    · exact mem_eqAt rx fx t f.2 u' hu
def inV (x : V) (xs : List V) : Bool := xs.any fun y => eqV y x
def rIn (K : PySem.W.Frag) (neg : Bool) : R2 := fun x y H Q => ∃ p xs, y = .ref p ∧ (SqL K H p xs ∨ SqT K H p xs) ∧ flatV x = true ∧ xs.all flatV = true ∧ Q (.bl (if neg then !inV x xs else inV x xs)) H
theorem op_in_seq : OpR X (compareOp .In) (rIn X.K false) := by
  intro pins s σ H x y v u Q I rx ry h
  obtain ⟨p, xs, rfl, hq, fx, fs, q⟩ := h
  cases ry
  rcases hq with hq | hq
  · obtain ⟨its, r, pl, hz⟩ := I.list hq
    refine SeqAt.in_listAt (eqU x) pl.isList (fun w hw => mem_eqAt rx fx r fs w (by simpa using hw)) ⟨.bl _, H, I, rfl, ?_⟩
    rw [show its.toArray.any (eqU x) = its.any (eqU x) by simp, any_eqU r fs]
    exact q
  · obtain ⟨its, r, pl, hz⟩ := I.tuple hq
    refine SeqAt.in_tupleAt (eqU x) pl (fun w hw => mem_eqAt rx fx r fs w (by simpa using hw)) ⟨.bl _, H, I, rfl, ?_⟩
    rw [show its.toArray.any (eqU x) = its.any (eqU x) by simp, any_eqU r fs]
    exact q
theorem op_notIn_seq : OpR X (compareOp .NotIn) (rIn X.K true) := by
  intro pins s σ H x y v u Q I rx ry h
  obtain ⟨p, xs, rfl, hq, fx, fs, q⟩ := h
  cases ry
  rcases hq with hq | hq
  · obtain ⟨its, r, pl, hz⟩ := I.list hq
    refine SeqAt.notIn_listAt (eqU x) pl.isList (fun w hw => mem_eqAt rx fx r fs w (by simpa using hw)) ⟨.bl _, H, I, rfl, ?_⟩
    rw [show its.toArray.any (eqU x) = its.any (eqU x) by simp, any_eqU r fs]
    exact q
  · obtain ⟨its, r, pl, hz⟩ := I.tuple hq
    refine SeqAt.notIn_tupleAt (eqU x) pl (fun w hw => mem_eqAt rx fx r fs w (by simpa using hw)) ⟨.bl _, H, I, rfl, ?_⟩
    rw [show its.toArray.any (eqU x) = its.any (eqU x) by simp, any_eqU r fs]
    exact q
theorem call_len_seq : CallR X (.builtin "len") (fun xs H Q => ∃ p ys, xs = [.ref p] ∧ (SqL X.K H p ys ∨ SqT X.K H p ys) ∧ Q (.int ys.length) H) := by
  intro pins s σ H xs us Q I r h
  obtain ⟨p, ys, rfl, hq, q⟩ := h
  obtain ⟨u, rfl, rx⟩ := vals1 r
  cases rx
  have hn := line63
  rcases hq with hq | hq
  · obtain ⟨its, r', pl, hz⟩ := I.list hq
    have hlen := r'.length
    exact Calls.call_len_list pl.isList (by simp only [List.size_toArray] <;> omega) ⟨.int ys.length, H, I.tok _, ⟨s.toks + 1, by rw [List.size_toArray, hlen]⟩, q⟩
  · obtain ⟨its, r', pl, hz⟩ := I.tuple hq
    have hlen := r'.length
    exact len_tuple pl (by simp only [List.size_toArray] <;> omega) ⟨.int ys.length, H, I.tok _, ⟨s.toks + 1, by rw [List.size_toArray, hlen]⟩, q⟩
theorem call_list_of : CallR X (.type "list") (fun xs H Q => ∃ p ys, xs = [.ref p] ∧ (SqL X.K H p ys ∨ SqT X.K H p ys) ∧ ∀ l, H l = none → Q (.ref l) (upd H l (.lst ys))) := by
  intro pins s σ H xs us Q I r h
  obtain ⟨p, ys, rfl, hq, q⟩ := h
  obtain ⟨u, rfl, rx⟩ := vals1 r
  cases rx
  have fin : ∀ (its : List Value), Vals ys its → ys.length ≤ sizeLine → ∀ (h' : Heap) (c' : Nat), (∀ b o', s.heap.get? b = some o' → h'.get? b = some o') →
      h'.get? s.heap.objs.size = some { cls := .type "list", dict := none, data := .seq its.toArray c', slots := #[] } → EP X pins σ Q (.ref s.heap.objs.size) { s with heap := h' } := fun its r' hz h' c' kp e =>
    ⟨.ref s.heap.objs.size, _, I.laid (t' := s.toks) kp (Nat.le_refl _) (show ObjOk X.prog X.w _ h' _ (.lst ys) from ⟨hz, its, c', r', e⟩), rfl, q _ (I.hok.fresh (Nat.le_refl _))⟩
  rcases hq with hq | hq
  · obtain ⟨its, r', pl, hz⟩ := I.list hq
    have hlen := r'.length
    obtain ⟨o, ho, hc, n, hd⟩ := pl.isList
    exact call_list_seq p (.inl rfl) ho hc hd (fun h' c' kp e => fin its r' hz h' c' kp e) (by simp only [List.size_toArray] <;> omega)
  · obtain ⟨its, r', pl, hz⟩ := I.tuple hq
    have hlen := r'.length
    obtain ⟨o, ho, hc, n, hd⟩ := pl
    exact call_list_seq p (.inr rfl) ho hc hd (fun h' c' kp e => fin its r' hz h' c' kp e) (by simp only [List.size_toArray] <;> omega)
theorem call_tuple_of : CallR X (.type "tuple") (fun xs H Q => ∃ p ys, xs = [.ref p] ∧ ((SqL X.K H p ys ∧ ∀ l, H l = none → Q (.ref l) (upd H l (.tup ys))) ∨ (SqT X.K H p ys ∧ Q (.ref p) H))) := by
  intro pins s σ H xs us Q I r h
  obtain ⟨p, ys, rfl, h⟩ := h
  obtain ⟨u, rfl, rx⟩ := vals1 r
  cases rx
  rcases h with ⟨hq, q⟩ | ⟨hq, q⟩
  · obtain ⟨its, r', pl, hz⟩ := I.list hq
    have hlen := r'.length
    refine call_tuple_list pl.isList (fun h' kp => ?_) (by simp only [List.size_toArray] <;> omega)
    have I1 : Inv X pins σ H { s with heap := h' } := I.kept (t' := s.toks) kp
    have I2 : Inv X pins σ (upd H h'.objs.size (.tup ys)) { s with heap := h'.push { cls := .type "tuple", data := .seq its.toArray } } :=
      I1.laid (t' := s.toks) (fun b o e => Heap.get?_push_of_some _ e) (Nat.le_refl _) (show ObjOk X.prog X.w _ _ _ (.tup ys) from ⟨hz, its, r', IsTup.new _ _⟩)
    exact ⟨.ref h'.objs.size, _, I2, rfl, q _ (I1.hok.fresh (Nat.le_refl _))⟩
  · obtain ⟨its, r', pl, hz⟩ := I.tuple hq
    exact call_tuple_same pl ⟨.ref p, H, I, rfl, q⟩
def tyV (K : PySem.W.Frag) (T : String) (x : V) (H : Hp) : Prop := match x with
  | .str _ => T = "str"
  | .int _ => T = "int"
  | .ref p => (T = "list" ∧ ∃ xs, SqL K H p xs) ∨ (T = "tuple" ∧ ∃ o, K.lookup p = some o ∧ o.cls = .type "tuple" ∧ o.dict = none) ∨
      (T = "dict" ∧ ((∃ kvs, H p = some (.dK kvs)) ∨ ∃ kvs, H p = some (.dT kvs))) ∨ (T = "set" ∧ ∃ S n, H p = some (.set S n))
  | _ => False
theorem tyV_is {pins : List (Addr × Obj)} {σ : St} {H : Hp} {s : Shared} {T : String} {x : V} {v : Value} (I : Inv X pins σ H s) (r : RelV x v) (ty : tyV X.K T x H) :
    s.TypeIs v T ∧ ∀ a, v = .ref a → ∃ ob, s.heap.get? a = some ob ∧ ob.dict = none := by
  cases x with
  | str z =>
    obtain ⟨t, rfl⟩ := r
    cases (show T = "str" from ty)
    exact ⟨typeIs_str s z t, fun _ e => nomatch e⟩
  | int i =>
    obtain ⟨t, rfl⟩ := r
    cases (show T = "int" from ty)
    exact ⟨typeIs_int s i t, fun _ e => nomatch e⟩
  | ref p =>
    cases r
    rcases ty with ⟨rfl, xs, hq⟩ | ⟨rfl, o, hk, hc, hd⟩ | ⟨rfl, hk⟩ | ⟨rfl, S, n, hk⟩
    · obtain ⟨its, _, pl, _⟩ := I.list hq
      refine ⟨pl.isList.typeIs, fun a e => ?_⟩
      cases e
      obtain ⟨o, n, e, c, hd, _⟩ := pl
      exact ⟨o, e, hd⟩
    · refine ⟨⟨o, I.kIn p o hk, hc⟩, fun a e => ?_⟩
      cases e
      exact ⟨o, I.kIn _ o hk, hd⟩
    · have z : ∃ o, s.heap.get? p = some o ∧ o.ExactDict := by
        rcases hk with ⟨kvs, hk⟩ | ⟨kvs, hk⟩
        · obtain ⟨_, _, _, _, o, _, _, e, ex, _⟩ := I.hok p _ hk
          exact ⟨o, e, ex⟩
        · obtain ⟨_, _, _, _, o, _, _, e, ex, _⟩ := I.hok p _ hk
          exact ⟨o, e, ex⟩
      obtain ⟨o, e, ex⟩ := z
      refine ⟨⟨o, e, ex.1⟩, fun a e2 => ?_⟩
      cases e2
      exact ⟨o, e, ex.2.1⟩
    · obtain ⟨o, _, _, _, e, ex, _⟩ := I.hok p _ hk
      refine ⟨⟨o, e, ex.1⟩, fun a e2 => ?_⟩
      cases e2
      exact ⟨o, e, ex.2.1⟩
  | _ => exact False.elim ty
def tBM0 (K : PySem.W.Frag) (T : String) (r : V → List V → Hp → VK → Prop) (to : TE) : TE := fun σ H Q => to σ H fun x H1 => tyV K T x H1 ∧ r x [] H1 Q
def tBM (K : PySem.W.Frag) (T : String) (r : V → List V → Hp → VK → Prop) (to : TE) (t : TA) : TE := fun σ H Q => to σ H fun x H1 => tyV K T x H1 ∧ t σ H1 fun xs H2 => r x xs H2 Q
variable {o e : Expr} {es : List Expr} {to : TE} {t : TA} {name : Str} {apos cpos : Pos} {T id : String} {r : V → List V → Hp → VK → Prop}
theorem pe_bm0 (pa : PlainAttrs T) (slot : Slot T name id) (hty : typeOf (.builtin id) = pure (.type "method_descriptor")) (hm : MtR X id r) (ho : PE X o to)
    (hbase : attributeBase o name X.env (eval o X.env) = eval o X.env := by rfl) (hline : (apos.endLine == cpos.line) = true := by rfl) : PE X (.Call (.Attribute o name apos) [] [] cpos) (tBM0 X.K T r to) := by
  intro pins s σ H Q I h
  refine wpAny_Call_method0_late hbase hline (thn (ho pins s σ H _ I h) fun v s1 ⟨x, H1, I1, r1, ty, q1⟩ => ?_)
  obtain ⟨h1, h2⟩ := tyV_is I1 r1 ty
  exact ⟨T, id, pa, slot, hty, h1, h2, Calls.callWith_builtin rfl (PySem.evalArgs_none (hm pins s1 σ H1 x [] v [] Q I1 r1 .nil q1))⟩
theorem pe_bm (pa : PlainAttrs T) (slot : Slot T name id) (hty : typeOf (.builtin id) = pure (.type "method_descriptor")) (hm : MtR X id r) (ho : PE X o to) (ha : PA X (e :: es) t)
    (hbase : attributeBase o name X.env (eval o X.env) = eval o X.env := by rfl)
    (hfew : ((backTo cpos (starEach (e :: es) X.env)).all (fun x => !x.1) && (backToKw cpos (keywordEach [] X.env)).all (fun x => x.1.isSome)
      && decide ((e :: es).length + ([] : List Keyword).length + (if ([] : List Keyword).isEmpty then 0 else 1) < 30)) = true := by rfl)
    (hline : (apos.endLine == cpos.line) = true := by rfl) (hs : starEach (e :: es) X.env = (false, eval e X.env) :: starEach es X.env := by rfl) (hplain : (backTo cpos (starEach es X.env)).any (·.1) = false := by rfl) :
    PE X (.Call (.Attribute o name apos) (e :: es) [] cpos) (tBM X.K T r to t) := by
  intro pins s σ H Q I h
  refine wpAny_Call_method_late hbase hfew hline rfl (thn (ho pins s σ H _ I h) fun v s1 ⟨x, H1, I1, r1, ty, q1⟩ => ?_)
  obtain ⟨h1, h2⟩ := tyV_is I1 r1 ty
  refine ⟨T, id, pa, slot, hty, h1, h2, ?_⟩
  have hA := ha cpos pins s1 σ H1 _ I1 q1
  rw [hs] at hA ⊢
  refine Calls.callWith_builtin (by show (false || (backTo cpos (starEach es X.env)).any (·.1)) = false; rw [hplain] <;> rfl) (Calls.evalArgs_plain ?_)
  exact thn hA fun us s2 ⟨vs, H2, I2, r2, q2⟩ => hm pins s2 σ H2 x vs v us Q I2 r1 r2 q2
end
end L2
namespace L2
open PySem PySem.Spec PyProof.Rows
def MtM (X : Cx) (id : String) (r : V → List V → Hp → VK → Prop) : Prop :=
  ∀ (pins : List (Addr × Obj)) (s : Shared) (σ : St) (H : Hp) (x : V) (xs : List V) (v : Value) (us : List Value) (Q : VK), Inv X pins σ H s → RelV x v → Vals xs us → r x xs H Q →
    wpAny (model X.prog X.w) X.A (call (.builtin id) (v :: us)) (EP X pins σ Q) X.xe s
theorem Vals.one : ∀ {x : V} {us : List Value}, Vals [x] us → ∃ u, us = [u] ∧ RelV x u
  | _, _, .cons r .nil => ⟨_, rfl, r⟩
theorem Vals.zero : ∀ {us : List Value}, Vals [] us → us = []
  | _, .nil => rfl
theorem Vals.dropLast {xs : List V} {us : List Value} (h : Vals xs us) : Vals xs.dropLast us.dropLast := by
  induction h with
  | nil => exact .nil
  | cons r t ih =>
    cases t with
    | nil => exact .nil
    | cons q t' => exact .cons r ih
theorem Vals.rep {xs : List V} {us : List Value} (h : Vals xs us) : ∀ k : Nat, Vals (List.replicate k xs).flatten (List.replicate k us).flatten
  | 0 => .nil
  | k + 1 => by
    rw [List.replicate_succ, List.replicate_succ, List.flatten_cons, List.flatten_cons]
    exact Vals.append h (Vals.rep h k)
theorem erase_last {α : Type} (l : List α) : l.eraseIdx (l.length - 1) = l.dropLast := by
  induction l with
  | nil => rfl
  | cons a r ih =>
    cases r with
    | nil => rfl
    | cons b r =>
      have e : (a :: b :: r).length - 1 = ((b :: r).length - 1) + 1 := by
        have h1 : (a :: b :: r).length = r.length + 2 := rfl
        have h2 : (b :: r).length = r.length + 1 := rfl
        omega
      rw [e, List.eraseIdx_cons_succ, ih]
      all_goals rfl
theorem foldl_rep (its : List Value) : ∀ (k : Nat) (acc : List Value),
    List.foldl (fun x1 x2 => x1 ++ x2) acc.toArray (List.replicate k its.toArray) = (acc ++ (List.replicate k its).flatten).toArray
  | 0, acc => by simp
  | k + 1, acc => by
    have e : acc.toArray ++ its.toArray = (acc ++ its).toArray := by simp
    have e2 : (acc ++ its) ++ (List.replicate k its).flatten = acc ++ (List.replicate (k + 1) its).flatten := by
      rw [List.replicate_succ, List.flatten_cons, List.append_assoc]
    rw [← e2, ← foldl_rep its k (acc ++ its), ← e, List.replicate_succ, List.foldl_cons]
section
variable {X : Cx} {pins : List (Addr × Obj)} {σ : St} {H : Hp} {s : Shared} {l b : Addr} {xs ys zs : List V}
theorem Inv.lset {its its' : List Value} {n : Nat} {f : Array Value → Array Value} {t' : Nat} (I : Inv X pins σ H s) (hH : H l = some (.lst xs))
    (e : s.heap.get? l = some { cls := .type "list", data := .seq its.toArray n }) (hf : f its.toArray = its'.toArray) (hv : Vals ys its') (hz : ys.length ≤ sizeLine) :
    Inv X pins σ (upd H l (.lst ys)) { s with heap := s.heap.update l (Obj.mapSeq f), toks := t' } := by
  have q := PySem.IsL.update e f
  rw [hf] at q
  refine I.write (x := l) (e := l) (by rw [hH]; exact trivial) (.inl rfl) (fun b' u hb hu => (Heap.get?_update_other s.heap (Obj.mapSeq f) (Ne.symm hb)).trans hu) ⟨_, q⟩ ?_
  exact ⟨hz, its', _, hv, q⟩
theorem Inv.lnew {its : List Value} {t' : Nat} (I : Inv X pins σ H s) (hv : Vals ys its) (hz : ys.length ≤ sizeLine) :
    Inv X pins σ (upd H s.heap.objs.size (.lst ys)) { s with heap := s.heap.push { cls := .type "list", data := .seq its.toArray }, toks := t' } :=
  I.laid (fun _ _ q => Heap.get?_push_of_some _ q) (Nat.le_refl _) ⟨hz, its, 0, hv, Heap.get?_push_size _ rfl⟩
theorem Inv.fresh (I : Inv X pins σ H s) : H s.heap.objs.size = none := I.hok.fresh (Nat.le_refl _)
theorem Inv.lstM (I : Inv X pins σ H s) (hH : H l = some (.lst xs)) : xs.length ≤ sizeLine ∧ ∃ (its : List Value) (n : Nat), Vals xs its ∧ xs.length = its.length ∧ s.heap.get? l = some { cls := .type "list", data := .seq its.toArray n } := by
  obtain ⟨z, its, n, r, e⟩ := I.hok l _ hH
  exact ⟨z, its, n, r, r.length, e⟩
theorem notLongL {n : Nat} (h : n ≤ sizeLine) : Builtin.List.listTooLong n = false := by
  unfold Builtin.List.listTooLong
  exact decide_eq_false (by omega)
end
section
variable {X : Cx}
def rAppend : V → List V → Hp → VK → Prop := fun x vs H Q => ∃ l xs y, x = .ref l ∧ vs = [y] ∧ H l = some (.lst xs) ∧ xs.length < sizeLine ∧ Q .non (upd H l (.lst (xs ++ [y])))
theorem mt_append : MtM X "list.append" rAppend := by
  intro pins s σ H x vs v us Q I rx rv h
  obtain ⟨l, xs, y, rfl, rfl, hH, hz, q⟩ := h
  cases rx
  obtain ⟨u, rfl, ru⟩ := rv.one
  obtain ⟨z, its, n, r, hl, e⟩ := I.lstM hH
  refine call_meets F.slot_list_append ⟨_, e, rfl⟩ F.entry_list_append (F.args_list_append_2 _ _) (PySem.list_append l its.toArray n u (by rw [List.size_toArray]; omega)) ⟨e, ?_⟩
  refine ⟨.non, _, I.lset (its' := its ++ [u]) hH e (by simp) (r.append (.cons ru .nil)) ?_, rfl, q⟩
  rw [List.length_append, List.length_singleton]
  omega
def rExtend : V → List V → Hp → VK → Prop := fun x vs H Q => ∃ l b xs zs, x = .ref l ∧ vs = [.ref b] ∧ H l = some (.lst xs) ∧ H b = some (.lst zs) ∧ xs.length + zs.length ≤ sizeLine ∧ Q .non (upd H l (.lst (xs ++ zs)))
theorem mt_extend : MtM X "list.extend" rExtend := by
  intro pins s σ H x vs v us Q I rx rv h
  obtain ⟨l, b, xs, zs, rfl, rfl, hH, hB, hz, q⟩ := h
  cases rx
  obtain ⟨u, rfl, ru⟩ := rv.one
  cases ru
  obtain ⟨z, its, n, r, hl, e⟩ := I.lstM hH
  obtain ⟨z2, its2, n2, r2, hl2, e2⟩ := I.lstM hB
  have hsz : its.toArray.size + its2.toArray.size ≤ sizeLine := by rw [List.size_toArray, List.size_toArray]; omega
  have hlong : ¬ (!its.toArray.isEmpty && Builtin.List.listTooLong (its.toArray.size + its2.toArray.size)) = true := by
    rw [notLongL hsz, Bool.and_false]
    exact Bool.false_ne_true
  refine call_meets F.slot_list_extend ⟨_, e, rfl⟩ F.entry_list_extend (F.args_list_extend_2 _ _)
    (AutoSeq1.list_extend_list_list_0 l its.toArray n b its2.toArray n2 hlong (by rw [List.size_toArray]; omega) (by omega)) ⟨e, e2, ?_⟩
  refine ⟨.non, _, I.lset (its' := its ++ its2) hH e (by simp) (r.append r2) ?_, rfl, q⟩
  rw [List.length_append]
  omega
def rPop : V → List V → Hp → VK → Prop := fun x vs H Q => ∃ l xs y, x = .ref l ∧ vs = [] ∧ H l = some (.lst xs) ∧ xs[xs.length - 1]? = some y ∧ Q y (upd H l (.lst xs.dropLast))
theorem mt_pop : MtM X "list.pop" rPop := by
  intro pins s σ H x vs v us Q I rx rv h
  obtain ⟨l, xs, y, rfl, rfl, hH, hy, q⟩ := h
  cases rx
  have hus := rv.zero
  subst hus
  obtain ⟨z, its, n, r, hl, e⟩ := I.lstM hH
  obtain ⟨u, hu, ru⟩ := r.get hy
  have hy' : its.toArray[its.toArray.size - 1]? = some u := by
    show its.toArray[its.length - 1]? = some u
    rw [← Array.getElem?_toList, ← hl]
    exact hu
  refine call_meets F.slot_list_pop ⟨_, e, rfl⟩ F.entry_list_pop (F.args_list_pop_1 _) (MeetsSeq.list_pop_last l its.toArray n u hy' (by rw [List.size_toArray]; omega)) ⟨e, ?_⟩
  refine ⟨y, _, I.lset (its' := its.dropLast) hH e ?_ r.dropLast ?_, ru, q⟩
  · show its.toArray.eraseIdxIfInBounds (its.toArray.size - 1) = its.dropLast.toArray
    rw [List.size_toArray, List.eraseIdxIfInBounds_toArray, erase_last]
  · rw [List.length_dropLast]
    omega
def rCat : R2 := fun x y H Q => ∃ l b xs zs, x = .ref l ∧ y = .ref b ∧ H l = some (.lst xs) ∧ H b = some (.lst zs) ∧ xs.length + zs.length ≤ sizeLine ∧ ∀ p, H p = none → Q (.ref p) (upd H p (.lst (xs ++ zs)))
theorem op_cat : OpR X (binaryOp .Add) rCat := by
  intro pins s σ H x y v u Q I rx ry h
  obtain ⟨l, b, xs, zs, rfl, rfl, hH, hB, hz, q⟩ := h
  cases rx
  cases ry
  obtain ⟨z, its, n, r, hl, e⟩ := I.lstM hH
  obtain ⟨z2, its2, n2, r2, hl2, e2⟩ := I.lstM hB
  refine PySem.P.add_list e e2 ?_ (by rw [List.size_toArray, List.size_toArray]; omega)
  have ea : its.toArray ++ its2.toArray = (its ++ its2).toArray := by simp
  rw [ea]
  exact ⟨.ref _, _, I.lnew (t' := s.toks) (r.append r2) (by rw [List.length_append]; omega), rfl, q _ I.fresh⟩
def rRep : R2 := fun x y H Q => ∃ l k xs, x = .ref l ∧ y = .int k ∧ H l = some (.lst xs) ∧ -(2 ^ 63) ≤ k ∧ k < 2 ^ 63 ∧ xs.length * k.toNat ≤ sizeLine ∧
  ∀ p, H p = none → Q (.ref p) (upd H p (.lst (List.replicate k.toNat xs).flatten))
theorem len_rep {α : Type} (xs : List α) (k : Nat) : (List.replicate k xs).flatten.length = k * xs.length := by
  induction k with
  | zero => simp
  | succ k ih => rw [List.replicate_succ, List.flatten_cons, List.length_append, ih, Nat.succ_mul, Nat.add_comm]
theorem op_rep : OpR X (binaryOp .Mult) rRep := by
  intro pins s σ H x y v u Q I rx ry h
  obtain ⟨l, k, xs, rfl, rfl, hH, h1, h2, hz, q⟩ := h
  cases rx
  obtain ⟨t, rfl⟩ := ry
  obtain ⟨z, its, n, r, hl, e⟩ := I.lstM hH
  have hlen : its.toArray.size * k.toNat ≤ sizeLine := by rw [List.size_toArray, ← hl]; exact hz
  have hcap : ¬ its.toArray.size * k.toNat > (2 ^ 63 - 1) / 8 := by
    have : (sizeLine : Nat) ≤ (2 ^ 63 - 1) / 8 := by decide
    omega
  have hfit : ¬ (!Builtin.List.listFitsIndex k) = true := by
    rw [fitsIndex_both h1 h2]
    exact Bool.false_ne_true
  have hlong : ¬ Builtin.List.listTooLong (its.toArray.size * k.toNat) = true := by
    rw [notLongL hlen]
    exact Bool.false_ne_true
  have hnew : List.foldl (fun x1 x2 => x1 ++ x2) #[] (List.replicate (if its.toArray.isEmpty = true then 0 else k.toNat) its.toArray) = (List.replicate k.toNat its).flatten.toArray := by
    have f0 : ∀ m : Nat, List.foldl (fun x1 x2 => x1 ++ x2) #[] (List.replicate m its.toArray) = (List.replicate m its).flatten.toArray := fun m => by
      have := foldl_rep its m []
      rw [List.nil_append] at this
      exact this
    rw [f0]
    cases its with
    | nil => simp
    | cons a r' => rw [if_neg (by simp)]
  refine wpAny_binaryOp_repeat_ref (T := "list") (U := "int") (by decide) ⟨_, e, rfl⟩ (fun s' => typeIs_int s' k t) noFill_list_mul F.fills_int_mul F.slot_int_rmul repeat_list F.slot_int_index.lookup
    (call_meets F.slot_int_rmul (typeIs_int s k t) F.entry_int_rmul (F.args_int_rmul_2 _ _) (int___rmul___int_list k t l its.toArray n)
      ⟨e, rfl, ⟨_, e, rfl⟩, call_meets F.slot_list_mul ⟨_, e, rfl⟩ F.entry_list_mul (F.args_list_mul_2 _ _) (AutoListH.list___mul___list_int_3 l its.toArray n k t hfit hcap hlong) ⟨e, ?_⟩⟩)
  rw [hnew]
  exact ⟨.ref _, _, I.lnew (t' := s.toks) (r.rep k.toNat) (by rw [len_rep, Nat.mul_comm]; exact hz), rfl, q _ I.fresh⟩
end
end L2
namespace Att
open PySem PySem.W PySem.Calls PyProof.Rows
theorem ints_of_wellAll {P : Params} {h : Heap} : ∀ (ns : List Int) (vs : List Value), WellAll P h vs (ns.map WData.int) → IntsAre vs ns := by
  intro ns
  induction ns with
  | nil =>
    intro vs w
    rw [List.map_nil] at w
    cases w
    exact .nil
  | cons n ns ih =>
    intro vs w
    rw [List.map_cons] at w
    cases w with
    | cons a b =>
      cases a
      exact .cons _ _ (ih _ b)
theorem script_of {l : OpenLaw} {n : Nat} (hn : l.most = some n) {P : Params} {h : Heap} {args : List WData} {vals : List Value}
    (hpre : l.row.toRowW.claim.pre args = true) (hwl : WellAll P h vals args) :
    ∃ a vs ns, vals = [Value.ref a] ∧ args = [WData.list (ns.map WData.int)] ∧ h.get? a = some { cls := .type "list", data := .seq vs.toArray } ∧ IntsAre vs ns ∧ ns.length ≤ n := by
  have hsh : WShape.hasAll [] args [.list .int] = true := (pre_splitW hpre).1
  have hc : l.pre.holds [] { args := args } = true := (pre_splitW hpre).2
  obtain ⟨d, r, rfl, h1, h2⟩ := hasAllW_cons hsh
  obtain rfl := hasAllW_nil h2
  obtain ⟨xs, rfl, h3⟩ := hasW_list h1
  obtain ⟨ns, rfl⟩ := items_int h3
  have hlen : ns.length ≤ n := by
    unfold OpenLaw.pre at hc
    have h4 : (WTm.not (.lt (.lit (.int (n : Int))) (.len (.arg 0)))).holds [] { args := [.list (ns.map .int)] } = true := by
      have h4 := (holds_andW hc).1
      rw [hn] at h4
      exact h4
    have h5 := condW_of h4 (w_not (w_lt w_lit (w_len_list (w_arg rfl))))
    rw [List.length_map] at h5
    refine Nat.le_of_not_lt fun q => ?_
    have q' : (n : Int) < ((ns.length : Nat) : Int) := by omega
    first
      | (rw [decide_eq_true q'] at h5; exact absurd h5 (by decide))
      | (simp at h5; omega)
  cases hwl with
  | cons w1 w2 =>
    cases w2
    cases w1 with
    | list ho hall => exact ⟨_, _, ns, rfl, rfl, ho, ints_of_wellAll ns _ hall, hlen⟩
theorem post_true (l : OpenLaw) (args : List WData) : l.row.toRowW.claim.post args (.bool true) args = true :=
  postW_of (r := l.row.toRowW) (X := (true == true))
    (show WShape.has [] (.bool true) .bool = true by first | rfl | decide | simp [WShape.has, WShape.arms, WShape.armsAll])
    (show (WTm.eq .res (.lit (.bool true))).value [] { args := args, res := some (.bool true), after := args } = some (.bool (true == true)) from w_eq_bool (w_res rfl) w_lit) rfl
theorem attach_call {l : OpenLaw} {n : Nat} {q : Program} {loose : List Str} {XP : (Str → Option Value) → Heap → Prop} {YP : World → Heap → Prop} {d : DefRec}
    (hn : l.most = some n) (hdf : d.params.defaults = [])
    (call : ∀ (w : World) (s₀ s₁ : Shared) (mg mb : Str → Option Value) (fa : Addr) (o : Obj) (pm cd doc : Value) (a : Addr) (vs : List Value) (ns : List Int),
      Ground q loose [] XP w s₀ mg mb s₁.heap → YP w s₁.heap →
      s₁.heap.get? fa = some o → o.data = .func (docDef d.name d.params d.body d.scope pm cd doc) → s₁.heap.CodeRec cd d.name → mg d.name = some (.ref fa) →
      s₁.heap.get? a = some { cls := .type "list", data := .seq vs.toArray } → IntsAre vs ns → ns.length ≤ n → s₁.gens = #[] →
      codeAny (model l.prog w) callerA (.call (.ref fa) ⟨[.ref a], []⟩) (fun r s' => r = .ok (.ret (.bool true)) ∧ OldK s₁.heap s'.heap ∧ s'.os = s₁.os ∧ AllBare s'.gens) s₁) :
    WalkO q loose XP YP l.row.toRowW d [] (fun f vs => PySem.call f vs) := by
  intro w s₀ s₁ mg mb G Y fa o pm cd doc dV kV ho hd hcd hD hmg hg args vals as hpre hlay hrd hwl hlo
  obtain rfl : dV = .none := Dflts.none hD hdf
  obtain rfl : kV = .none := Dflts.noKw hD
  obtain ⟨a, vs, ns, rfl, rfl, hobj, hints, hlen⟩ := script_of hn hpre hwl
  refine enter_call (codeAny_mono (call w s₀ s₁ mg mb fa o pm cd doc a vs ns G Y ho (fd_plain hd) hcd hmg hobj hints hlen hg) fun r s' hq => ?_)
  obtain ⟨rfl, h2, h3, h4⟩ := hq
  exact ⟨.inl ⟨.bool true, .bool true, [], rfl, fun _ => rfl, .bool true, post_true l _, fun _ => ⟨List.Pairwise.nil, fun _ hm => (nomatch hm)⟩⟩, h2, h3, h4⟩
end Att
namespace L2
open PySem PySem.Spec PyProof.Rows
theorem vals_ints : ∀ {vs : List Value} {ns : List Int}, IntsAre vs ns → Vals (ns.map V.int) vs
  | _, _, .nil => .nil
  | _, _, .cons n t h => .cons ⟨t, rfl⟩ (vals_ints h)
end L2
namespace L2
open PySem PySem.Spec PyProof.Rows
def inClass (s : Stmt) (j : Nat) : Stmt := match s with
  | .ClassDef _ _ _ body _ _ _ _ _ _ _ => body.getD j (.Pass ⟨0, 0, 0, 0⟩)
  | _ => .Pass ⟨0, 0, 0, 0⟩
def defArgs (s : Stmt) : Arguments := match s with
  | .FunctionDef _ a _ _ _ _ _ _ _ _ => a
  | _ => { posonlyargs := [], args := [], vararg := none, kwonlyargs := [], kw_defaults := [], kwarg := none, defaults := [] }
def defBody (s : Stmt) : List Stmt := match s with
  | .FunctionDef _ _ b _ _ _ _ _ _ _ => b
  | _ => []
def defScope (s : Stmt) : Scope := match s with
  | .FunctionDef _ _ _ _ _ _ sc _ _ _ => sc
  | _ => { kind := .function, names := [], isGenerator := false, isCoroutine := false }
abbrev CX0 : CXT := fun _ _ _ _ _ _ => False
abbrev E0 : XK := fun _ _ _ => False
theorem pass0 {X : Cx} : Passes CX0 X E0 := fun _ _ _ _ _ _ _ h => h.elim
structure Fun (K : PySem.W.Frag) (x qual : Str) (st : Stmt) (f : Addr) (fd : FuncData) : Prop where
  ex : ∃ (oc : Value) (od : Option Addr) (kV doc pm : Value) (an : Option Addr) (cdv ct : Value) (osl : Array (Option Value)),
    fd = PySem.W.fnOf x qual (defArgs st) (defBody st) (defScope st) .none kV doc pm an cdv ct ∧ K.lookup f = some ⟨oc, od, .func fd, osl⟩ ∧ PySem.W.codeIn K cdv qual = true
  kp : PySem.W.keepIn K (.ref f) = true
section
variable {P : Program} {w : World} {K : PySem.W.Frag} {mg : Str → Option Value} {base : Heap}
theorem Fun.ok {x qual : Str} {st : Stmt} {f : Addr} {fd : FuncData} {N ps : List Str} {k : Nat} {sp : Sp} (F : Fun K x qual st f fd) (S : FnScope N ps (defScope st)) (len : ∀ vs H Q E, sp vs H Q E → vs.length = ps.length)
    (hbody : ∀ (cdv : Value) (A : Around) (outer : List Env) (s : Shared) (H : Hp) (vs : List V) (Q : VK) (E : XK), Room k (A.deeper (envOfC qual (defScope st) s.heap.objs.size f cdv)) → sp vs H Q E →
      ∃ t, PSs (cxOf CX0 P w K mg base N qual (defScope st) f cdv A outer s H E).nox (defBody st) t ∧ t { nx := fun _ H' => Q .non H', rt := Q } (start N vs) H) : FnOk P w K mg base CX0 (k + 1) f fd ps sp := by
  obtain ⟨oc, od, kV, doc, pm, an, cdv, ct, osl, rfl, lk, hcd⟩ := F.ex
  refine fn_of lk hcd S len fun A outer s H vs Q E hr hsp => ?_
  obtain ⟨t, h, q⟩ := hbody cdv A outer s H vs Q E hr hsp
  exact ⟨t, h.nox, q⟩
theorem Fun.binds {x qual : Str} {st : Stmt} {f : Addr} {fd : FuncData} {ps : List Str} (F : Fun K x qual st f fd)
    (h : ∀ (kV doc pm : Value) (an : Option Addr) (cdv ct : Value) (us : List Value), us.length = ps.length → bindArgs (PySem.W.fnOf x qual (defArgs st) (defBody st) (defScope st) .none kV doc pm an cdv ct) ⟨us, []⟩ = pure (ps.zip us)) : Binds K fd ps [] := by
  obtain ⟨oc, od, kV, doc, pm, an, cdv, ct, osl, rfl, lk, hcd⟩ := F.ex
  exact .all (h kV doc pm an cdv ct)
theorem fun_mk {x qual : Str} {st : Stmt} {f : Addr} {oc : Value} {od an : Option Addr} {osl : Array (Option Value)} {kV doc pm cdv ct : Value} (l : K.lookup f = some ⟨oc, od, .func (PySem.W.fnOf x qual (defArgs st) (defBody st) (defScope st) .none kV doc pm an cdv ct), osl⟩)
    (c : PySem.W.codeIn K cdv qual = true) (k : PySem.W.keepIn K (.ref f) = true) : Fun K x qual st f (PySem.W.fnOf x qual (defArgs st) (defBody st) (defScope st) .none kV doc pm an cdv ct) := ⟨⟨oc, od, kV, doc, pm, an, cdv, ct, osl, rfl, l, c⟩, k⟩
end
theorem hu_of {A : Around} {k : Nat} (hr : Room k A) : A.units + 1 < cLine := Nat.lt_of_le_of_lt (Nat.add_le_add_left (by decide : 1 ≤ 64) _) hr.units
section
variable {X : Cx}
theorem pv (i : Nat) {x : Str} {pos : Pos} (hN : X.N[i]? = some x := by rfl) (hv : Vis X.env.scope x := by first | exact Or.inl rfl | exact Or.inr (Or.inl rfl) | exact Or.inr (Or.inr rfl)) (hd : (x == ("__debug__" : Str)) = false := by decide)
    (hcd : (x == ("__classdict__" : Str)) = false := by decide) : PE X (.Name x pos) (tVar i) := pe_var hN hv hd hcd
end
theorem iteF {A B : Prop} (h : B) : if false = true then A else B := by
  rw [if_neg Bool.false_ne_true]
  exact h
theorem iteT {A B : Prop} (h : A) : if true = true then A else B := by
  rw [if_pos rfl]
  exact h
theorem ite2 {c A B : Prop} [Decidable c] (h1 : c → A) (h2 : ¬ c → B) : if c then A else B := by
  by_cases h : c
  · rw [if_pos h]
    exact h1 h
  · rw [if_neg h]
    exact h2 h
def Same (H H' : Hp) : Prop := ∀ b o, H b = some o → H' b = some o
theorem Same.refl (H : Hp) : Same H H := fun _ _ h => h
theorem Same.trans {H H1 H2 : Hp} (a : Same H H1) (b : Same H1 H2) : Same H H2 := fun c o h => b c o (a c o h)
theorem Same.free {H H' : Hp} (e : Same H H') {l : Addr} (h : H' l = Option.none) : H l = Option.none := by
  cases q : H l with
  | none => rfl
  | some o =>
    rw [e l o q] at h
    cases h
theorem Same.seq {K : PySem.W.Frag} {H H' : Hp} {a : Addr} {xs : List V} (e : Same H H') (h : SqL K H a xs) : SqL K H' a xs := by
  rcases h with (h | ⟨o, h⟩) | h
  · exact .inl (.inl (e _ _ h))
  · exact .inl (.inr ⟨o, e _ _ h⟩)
  · exact .inr h
end L2
set_option Elab.async false
set_option linter.all false
set_option maxRecDepth 100000
namespace L2
open PySem PySem.Spec PyProof.Rows
def cxBlk (X : Cx) (scope : Scope) (cl : List (Str × Addr)) (C : Addr) (N : List Str) (fp : List Addr) (s : Shared) (H : Hp) : Cx :=
  { X with N := N, s₀ := s, H₀ := H, env := compEnvC scope cl C X.env, outer := X.stack, ex := fp, fn := fun _ => false, pn := [], xe := fun _ _ => False }
def PTs (X : Cx) (ifs : List Expr) (t : TT) : Prop :=
  ∀ (pins : List (Addr × Obj)) (s : Shared) (σ : St) (H : Hp) (Q : Bool → Hp → Prop), Inv X pins σ H s → t σ H Q →
    wpAny (model X.prog X.w) X.A (forIn ifs true fun c r => if r = true then do let ok ← isTrue c X.env (eval c X.env); pure (ForInStep.yield ok) else pure (ForInStep.yield r)) (TP X pins σ Q) X.xe s
def tTrue : TT := fun _ H Q => Q true H
theorem pts_nil {X : Cx} : PTs X [] tTrue := fun _ _ _ H _ I h => wpAny_tests_nil ⟨H, I, h⟩
theorem pts_one {X : Cx} {c : Expr} {t : TT} (h : PT X c t) : PTs X [c] t := fun pins s σ H Q I q => wpAny_tests_one (h pins s σ H Q I q)
theorem codeAny_compLoop_go {prog : Program} {w : World} {A : Around} {R : Result → Shared → Prop} {s : Shared} {elt target iter : Expr} {ifs : List Expr} {scope : Scope} {pos : Pos} {it acc : Value} {env : Env} (I : Nat → Shared → Prop)
    (turn : ∀ n s, I n s → wpAny (model prog w) A (pyNext it) (fun r s₁ => match r with
      | none => R (.ok .next) s₁
      | some v => wpAny (model prog w) A (letOwnedTupleGo target it v) (fun _ s₁' => wpAny (model prog w) A (assign target env v) (fun _ s₂ =>
          wpAny (model prog w) A (forIn ifs true fun c r => if r = true then do let ok ← isTrue c env (eval c env); pure (ForInStep.yield ok) else pure (ForInStep.yield r)) (fun ok s₃ =>
            if ok = true then wpAny (model prog w) A (eval elt env) (fun x s₄ =>
              wpAny (model prog w) A (call (.builtin "list.append") [acc, x]) (fun _ s₅ => ∃ m, m < n ∧ I m s₅) (fun _ _ => False) s₄) (fun _ _ => False) s₃
            else ∃ m, m < n ∧ I m s₃) (fun _ _ => False) s₂) (fun _ _ => False) s₁') (fun _ _ => False) s₁) (fun _ _ => False) s)
    (n : Nat) (h : I n s) :
    codeAny (model prog w) A (.compLoop (.ListComp elt [⟨target, iter, ifs, 0⟩] scope pos) 0 it acc env) R s := by
  have lift : ∀ {α : Type} {t : Sem α} {Q : α → Shared → Prop} {E : Value → Shared → Prop} {s : Shared}, wpAny (model prog w) A t Q (fun _ _ => False) s → wpAny (model prog w) A t Q E s :=
    fun h => wpAny_mono h (fun _ _ q => q) fun _ _ q => q.elim
  refine codeAny_loop rfl I (fun n s hI => ?_) n h
  show wpAny _ A ((compTurn (.ListComp elt [⟨target, iter, ifs, 0⟩] scope pos) 0 it acc env).onRaise (fun x => do noteFrame x env; theTreesLotGoes x)) _ _ s
  refine wpAny_noted ?_
  rw [compTurn_list]
  refine wpAny_bind (wpAny_standAt (wpAny_bind (wpAny_mono (lift (turn n s hI)) (fun r s₁ h₁ => ?_) fun _ _ h' => h')))
  cases r with
  | none => exact wpAny_pure h₁
  | some v =>
    refine wpAny_bind (wpAny_mono (lift h₁) (fun _ s₁' h₁' => ?_) fun _ _ h' => h')
    refine wpAny_bind (wpAny_mono (lift h₁') (fun _ s₂ h₂ => wpAny_bind (wpAny_mono (lift h₂) (fun ok s₃ h₃ => ?_) fun _ _ h' => h')) fun _ _ h' => h')
    cases ok with
    | false => exact wpAny_pure ⟨rfl, h₃⟩
    | true =>
      exact wpAny_bind (wpAny_bind (wpAny_mono (lift h₃) (fun x s₄ h₄ => wpAny_bind (wpAny_mono (lift h₄) (fun _ s₅ h₅ => wpAny_pure (wpAny_pure ⟨rfl, h₅⟩)) fun _ _ h' => h')) fun _ _ h' => h'))
def BsOk (XN : List Str) (xn sn : List (Str × NameKind)) : List Str → List (Option Nat) → Prop
  | [], [] => True
  | _ :: N, none :: bs => BsOk XN xn sn N bs
  | x :: N, some j :: bs => (XN[j]? = some x ∧ xn.lookup x = some .cell ∧ sn.lookup x = some .free) ∧ BsOk XN xn sn N bs
  | _, _ => False
def bst (bs : List (Option Nat)) (σ : St) : St := bs.map fun o => o.bind fun j => (σ[j]?).join
theorem BsOk.len {XN : List Str} {xn sn : List (Str × NameKind)} : ∀ {N : List Str} {bs : List (Option Nat)}, BsOk XN xn sn N bs → bs.length = N.length
  | [], [], _ => rfl
  | _ :: N, none :: bs, h => congrArg (· + 1) (BsOk.len (N := N) (bs := bs) h)
  | _ :: N, some _ :: bs, h => congrArg (· + 1) (BsOk.len (N := N) (bs := bs) h.2)
theorem BsOk.get {XN : List Str} {xn sn : List (Str × NameKind)} : ∀ {N : List Str} {bs : List (Option Nat)} {i j : Nat}, BsOk XN xn sn N bs → bs[i]? = some (some j) → ∃ x, N[i]? = some x ∧ XN[j]? = some x ∧ xn.lookup x = some .cell ∧ sn.lookup x = some .free
  | [], [], _, _, _, e => by simp at e
  | _ :: N, none :: bs, 0, _, _, e => by simp at e
  | _ :: N, none :: bs, i + 1, j, h, e => by
    obtain ⟨x, h1, h2⟩ := BsOk.get (N := N) (bs := bs) (i := i) (j := j) h (by simpa using e)
    exact ⟨x, by simpa using h1, h2⟩
  | x :: N, some k :: bs, 0, j, h, e => by
    have : k = j := by simpa using e
    subst this
    exact ⟨x, rfl, h.1⟩
  | _ :: N, some k :: bs, i + 1, j, h, e => by
    obtain ⟨x, h1, h2⟩ := BsOk.get (N := N) (bs := bs) (i := i) (j := j) h.2 (by simpa using e)
    exact ⟨x, by simpa using h1, h2⟩
theorem relabel_free {env : Env} : ∀ {names : List (Str × NameKind)} {x : Str}, names.lookup x = some .free →
    ((names.map fun (n, k) => if (k == NameKind.free && env.scope.kind == .function && env.kindOf n == some .cell) then (n, NameKind.cell) else (n, k)).lookup x = some .cell ∨
    (names.map fun (n, k) => if (k == NameKind.free && env.scope.kind == .function && env.kindOf n == some .cell) then (n, NameKind.cell) else (n, k)).lookup x = some .free)
  | [], _, h => by simp at h
  | (n, k) :: r, x, h => by
    have ih := @relabel_free env r x
    simp only [List.map_cons]
    cases hx : x == n with
    | true =>
      simp only [List.lookup_cons, hx] at h
      cases h
      by_cases hc : (NameKind.free == NameKind.free && env.scope.kind == .function && env.kindOf n == some .cell) = true
      · rw [if_pos hc]; simp only [List.lookup_cons, hx]; simp
      · rw [if_neg hc]; simp only [List.lookup_cons, hx]; simp
    | false =>
      simp only [List.lookup_cons, hx] at h
      by_cases hc : (k == NameKind.free && env.scope.kind == .function && env.kindOf n == some .cell) = true
      · rw [if_pos hc]; simp only [List.lookup_cons, hx]; exact ih h
      · rw [if_neg hc]; simp only [List.lookup_cons, hx]; exact ih h
theorem relabel_back {env : Env} : ∀ {names : List (Str × NameKind)} {x : Str}, (∀ y ∈ names, y.2 ≠ .cell) →
    ((names.map fun (n, k) => if (k == NameKind.free && env.scope.kind == .function && env.kindOf n == some .cell) then (n, NameKind.cell) else (n, k)).lookup x = some .cell ∨
    (names.map fun (n, k) => if (k == NameKind.free && env.scope.kind == .function && env.kindOf n == some .cell) then (n, NameKind.cell) else (n, k)).lookup x = some .free) → names.lookup x = some .free
  | [], _, _, h => by simp at h
  | (n, k) :: r, x, hn, h => by
    have ih := @relabel_back env r x fun y hy => hn y (.tail _ hy)
    simp only [List.map_cons] at h
    cases hx : x == n with
    | true =>
      by_cases hc : (k == NameKind.free && env.scope.kind == .function && env.kindOf n == some .cell) = true
      · simp only [Bool.and_eq_true, beq_iff_eq] at hc
        simp only [List.lookup_cons, hx]
        rw [hc.1.1]
      · rw [if_neg hc] at h
        simp only [List.lookup_cons, hx] at h ⊢
        rcases h with h | h
        · exact absurd (Option.some.inj h) (hn (n, k) (.head _))
        · exact h
    | false =>
      simp only [List.lookup_cons, hx]
      by_cases hc : (k == NameKind.free && env.scope.kind == .function && env.kindOf n == some .cell) = true
      · rw [if_pos hc] at h; simp only [List.lookup_cons, hx] at h; exact ih h
      · rw [if_neg hc] at h; simp only [List.lookup_cons, hx] at h; exact ih h
structure Blk (X : Cx) (scope : Scope) (cl : List (Str × Addr)) (N : List Str) (bs : List (Option Nat)) : Prop where
  clos : closureFor scope X.env = pure cl
  kind : scope.kind = .function
  cell : ∀ y ∈ scope.names, y.2 ≠ .cell
  names : ∀ y ∈ scope.names, y.2 = .local → scope.names.lookup y.1 = some .local
  cl1 : ∀ p ∈ cl, X.env.cells.lookup p.1 = some p.2
  cl2 : ∀ y ∈ scope.names, y.2 = .free → (cl.lookup y.1).isSome = true
  bs : BsOk X.N X.env.scope.names scope.names N bs
section
variable {X : Cx} {scope : Scope} {cl : List (Str × Addr)} {N : List Str} {bs : List (Option Nat)} {pins : List (Addr × Obj)} {σ : St} {H : Hp} {s : Shared} {fp : List Addr} {C : Addr}
theorem Blk.c1 (B : Blk X scope cl N bs) {x : Str} {c : Addr} (h : cl.lookup x = some c) : X.env.cells.lookup x = some c := B.cl1 (x, c) (PySem.mem_of_lookup h)
theorem Blk.c2 (B : Blk X scope cl N bs) {x : Str} (h : (compEnvC scope cl C X.env).kindOf x = some .cell ∨ (compEnvC scope cl C X.env).kindOf x = some .free) : ∃ c, cl.lookup x = some c := by
  have h1 := relabel_back (env := X.env) B.cell h
  exact Option.isSome_iff_exists.mp (B.cl2 (x, .free) (PySem.mem_of_lookup h1) rfl)
theorem Blk.ok (B : Blk X scope cl N bs) (I : Inv X pins σ H s) (hf : ∀ b ∈ fp, FpOk X pins H b) (ho : ∀ b ∈ fp, ∃ o, s.heap.get? b = some o ∧ ∀ v, o.data ≠ .cell v) (hC : s.heap.objs.size ≤ C) : (cxBlk X scope cl C N fp s H).Ok := by
  refine ⟨I.ok.mod, B.kind, I.ok.glob, I.ok.blt, hC, fun x y c h1 h2 => I.ok.inj x y c (B.c1 h1) (B.c1 h2), fun x h => B.c2 h, fun x c h _ => (Bool.false_ne_true h).elim, I.ok.hd, I.ok.frames, .inl rfl, fun b hb => ?_, I.bs, Nat.le_trans I.ok.bsz I.sz, fun b o e hb => ?_, fun b hb hb' => ?_, I.stack, I.stkFree⟩
  · obtain ⟨o, e, _⟩ := ho b hb
    obtain ⟨_, _, _, _, f4, _⟩ := hf b hb
    exact ⟨Nat.ne_of_lt (Nat.lt_of_lt_of_le (Heap.lt_size e) hC), fun x c h => f4 x c (B.c1 h)⟩
  · obtain ⟨_, _, _, f3, _⟩ := hf b hb
    rcases f3 with z | z
    · exact I.ok.noex b o e z
    · exact absurd (Nat.lt_of_lt_of_le (Heap.lt_size e) (Nat.le_trans I.ok.bsz z)) (Nat.lt_irrefl _)
  · obtain ⟨_, f1, f2, _⟩ := hf b hb
    rcases List.mem_cons.mp (I.stkSub b hb') with z | z
    · exact f1 z
    · exact f2 z
theorem Blk.inv (B : Blk X scope cl N bs) (I : Inv X pins σ H s) (hf : ∀ b ∈ fp, FpOk X pins H b) (ho : ∀ b ∈ fp, ∃ o, s.heap.get? b = some o ∧ ∀ v, o.data ≠ .cell v) (hC : s.heap.objs.size ≤ C) {h' : Heap} {t' : Nat}
    (hk : ∀ b o, s.heap.get? b = some o → h'.get? b = some o) {m : Str → Option Value} (hn : h'.Ns C m) {D : Addr} {oD : Obj} (hD : h'.get? D = some oD) (hD1 : s.heap.objs.size ≤ D) (hDC : D ≠ C) (hDd : ∀ v, oD.data ≠ .cell v) :
    Inv (cxBlk X scope cl C N fp s H) [(D, oD)] (bst bs σ) H { s with heap := h', toks := t' } := by
  have ok : (cxBlk X scope cl C N fp s H).Ok := B.ok I hf ho hC
  refine ⟨ok, rfl, I.bare, Un.kept hk, ⟨m, hn, fun i x v e1 e2 e3 => ?_⟩, fun x c h => ?_, I.hok.fresh hC, fun x c h => I.freeC x c (B.c1 h), fun p hp => ?_, I.hok.kept hk, ?_⟩
  · have e2' : (bst bs σ)[i]? = some (some v) := e2
    unfold bst at e2'
    rw [List.getElem?_map] at e2'
    cases q : bs[i]? with
    | none => rw [q] at e2'; cases e2'
    | some o =>
      rw [q] at e2'
      cases o with
      | none => cases e2'
      | some j =>
        obtain ⟨y, y1, y2, y3, y4⟩ := B.bs.get q
        have e1' : N[i]? = some x := e1
        rw [e1'] at y1
        cases y1
        have e4 : σ[j]? = some (some v) := by
          have z : (σ[j]?).join = some v := Option.some.inj e2'
          cases w : σ[j]? with
          | none => rw [w] at z; cases z
          | some o => rw [w] at z; rw [show o = some v from z]
        obtain ⟨mx, hmx, lx⟩ := I.loc
        obtain ⟨u, r, l⟩ := lx j x v y2 e4 (.inr (.inl y3))
        refine ⟨u, r, .inr ⟨relabel_free (env := X.env) y4, ?_⟩⟩
        rcases l with ⟨l1, _⟩ | ⟨_, c, l2, l3⟩
        · have l1' : X.env.scope.names.lookup x = some .local := l1
          rw [y3] at l1'
          cases l1'
        · obtain ⟨c', h'⟩ := Option.isSome_iff_exists.mp (B.cl2 (x, .free) (PySem.mem_of_lookup y4) rfl)
          have h2 := B.c1 h'
          rw [l2] at h2
          cases h2
          obtain ⟨oc, hoc, hd⟩ := l3
          exact ⟨c, h', oc, hk _ _ hoc, hd⟩
  · obtain ⟨v, oc, hoc, hd⟩ := I.cell x c (B.c1 h)
    exact ⟨v, oc, hk _ _ hoc, hd⟩
  · have e : p = (D, oD) := by simpa [cxBlk] using hp
    subst e
    refine ⟨hD, I.hok.fresh hD1, hDC, fun z => ?_, hDd⟩
    have z' : D ∈ frs X.stack := z
    rcases List.mem_cons.mp (I.stkSub D z') with q | q
    · exact Nat.lt_irrefl _ (Nat.lt_of_lt_of_le I.lt (by rw [← q]; exact hD1))
    · exact I.nofs hD1 q
  · show (bst bs σ).length = N.length
    unfold bst
    rw [List.length_map]
    exact B.bs.len
end
def tLC (bs : List (Option Nat)) (wi : TI) (g : TG) (tt : TT) (te : TE) : TE := fun σ H Q => wi σ H fun J H1 => ∃ W : Nat → Nat → List V → St → Hp → Prop, (∃ m, W 0 m [] (bst bs σ) H1) ∧ ∀ i m ys σ' H', W i m ys σ' H' →
  (J.stop i H' ∧ ys.length ≤ sizeLine ∧ ∀ p, H' p = none → Q (.ref p) (upd H' p (.lst ys))) ∨
  (J.go i H' ∧ ys.length < sizeLine ∧ ∃ N : List V → St → Hp → Prop, (∀ zs σ2 H2, N zs σ2 H2 → ∃ m', m' < m ∧ W (i + 1) m' zs σ2 H2) ∧ ∀ x H2, J.yld i H' x H2 → g x σ' H2 fun σ3 H3 => tt σ3 H3 fun b H4 =>
    if b = true then te σ3 H4 fun v H5 => N (ys ++ [v]) σ3 H5 else N ys σ3 H4)
theorem pe_lc {X : Cx} {scope : Scope} {cl : List (Str × Addr)} {N : List Str} {bs : List (Option Nat)} {tg iter elt : Expr} {ifs : List Expr} {pos : Pos} {wi : TI} {g : TG} {tt : TT} {te : TE} (B : Blk X scope cl N bs) (hc : X.calm = true)
    (hi : PI X tg iter wi) (hg : ∀ C fp s H, PG (cxBlk X scope cl C N fp s H) tg g) (ht : ∀ C fp s H, PTs (cxBlk X scope cl C N fp s H) ifs tt) (he : ∀ C fp s H, PE (cxBlk X scope cl C N fp s H) elt te)
    (hs : ∀ x, foldedSetIterable iter X.env x = pure x := by intro _; rfl) :
    PE X (.ListComp elt [⟨tg, iter, ifs, 0⟩] scope pos) (tLC bs wi g tt te) := by
  intro pins s σ H Q I h
  rw [eval_ListComp]
  refine wpAny_comprehension_free (use := none) rfl hs B.clos B.kind B.names (thn (hi pins s σ H _ I h) fun v s1 h1 => thn h1 fun itv s2 h2 => ?_)
  obtain ⟨it, fp, tn, J, H2, rfl, I2, T, st2, f2, W, ⟨m0, w0⟩, turn⟩ := h2
  refine wpAny_newObj_type (wpAny_newFunctionEnv B.cell (by intro y hy; simp at hy) (fun h₁ hns₁ hsb₁ => ?_) B.kind)
  dsimp only at hns₁ hsb₁ ⊢
  generalize hG : s2.heap.push { cls := .type "list", dict := none, data := .seq ([] : List Value).toArray } = G at hns₁ hsb₁ ⊢
  have hC : G.objs.size = s2.heap.objs.size + 1 := by rw [← hG, Heap.size_push]
  have hDC : s2.heap.objs.size ≠ G.objs.size := by rw [hC]; exact Nat.ne_of_lt (Nat.lt_succ_self _)
  have hCle : s2.heap.objs.size ≤ G.objs.size := by rw [hC]; exact Nat.le_succ _
  have old : ∀ b o, s2.heap.get? b = some o → h₁.get? b = some o := fun b o e => hsb₁.extBut b o (by rw [hC]; exact Nat.ne_of_lt (Nat.lt_succ_of_lt (Heap.lt_size e))) (Heap.get?_push_of_some _ (hG ▸ Heap.get?_push_of_some _ e))
  have hacc : h₁.get? s2.heap.objs.size = some { cls := .type "list", data := .seq ([] : List Value).toArray 0 } := hsb₁.extBut _ _ hDC (Heap.get?_push_of_some _ (hG ▸ Heap.get?_push_size _ rfl))
  have stat : ∀ {D : Addr} {o : Obj} {H' : Hp}, s2.heap.objs.size ≤ D → (∀ b ∈ fp, H' b = none) → ∀ b ∈ fp, FpOk (cxBlk X scope cl G.objs.size N fp s2 H2) [(D, o)] H' b := fun {D o H'} hD hn b hb => by
    obtain ⟨ob, eb, _⟩ := T.obj _ _ st2 b hb
    obtain ⟨_, f1, f3, f4, f5, _⟩ := f2 b hb
    have ok := B.ok I2 f2 (T.obj _ _ st2) (C := G.objs.size) hCle
    refine ⟨hn b hb, (ok.exf b hb).1, ok.exfs b hb, .inl hb, (ok.exf b hb).2, fun p hp => ?_⟩
    have e : p = (D, o) := by simpa [cxBlk] using hp
    subst e
    exact Nat.ne_of_gt (Nat.lt_of_lt_of_le (Heap.lt_size eb) hD)
  have loop : ∀ s₃ : Shared, s₃ = { s2 with heap := h₁, toks := s2.toks + ([] : List (Str × Value)).length } →
      codeAny (model X.prog X.w) X.A (.compLoop (.ListComp elt [⟨tg, iter, ifs, 0⟩] scope pos) 0 (.ref it) (.ref s2.heap.objs.size) (compEnvC scope cl G.objs.size X.env))
        (compPost (model X.prog X.w) X.A X.xe none (EP X pins σ Q) (.ref s2.heap.objs.size) G.objs.size) s₃ := by
    rintro s₃ rfl
    refine codeAny_compLoop_go (fun n s' => ∃ i ys its k σ' H', Inv (cxBlk X scope cl G.objs.size N fp s2 H2) [(s2.heap.objs.size, { cls := .type "list", data := .seq (List.toArray its) k })] σ' H' s' ∧ Vals ys its ∧ tn i s'.heap ∧ (∀ b ∈ fp, H' b = none) ∧ W i n ys σ' H') ?_ m0
      ⟨0, [], [], 0, bst bs σ, H2, B.inv I2 f2 (T.obj _ _ st2) hCle old hns₁ hacc (Nat.le_refl _) hDC (fun v z => nomatch z), .nil, T.keep _ _ _ st2 fun b _ o e => old b o e, fun b hb => (f2 b hb).1, w0⟩
    rintro n s3 ⟨i, ys, its, k, σ3, H3, I3, rv, st3, fr3, w3⟩
    have pD := I3.pin _ (List.mem_append_right _ (.head _))
    rcases turn i n ys σ3 H3 w3 with ⟨stop, hz, qn⟩ | ⟨go, hz, NN, hNN, step⟩
    · refine thn (T.done (cxBlk X scope cl G.objs.size N fp s2 H2) rfl rfl rfl hc i _ s3 σ3 H3 (fun _ _ => False) I3 (stat (Nat.le_refl _) fr3) st3 stop) fun r s4 ⟨hr, I4⟩ => ?_
      subst hr
      have pD4 := I4.pin _ (List.mem_append_right _ (.head _))
      obtain ⟨m4, hn4, _⟩ := I4.loc
      refine ⟨m4, hn4, fun h5 sb5 => ?_⟩
      have hD5 : h5.get? s2.heap.objs.size = some { cls := .type "list", data := .seq (List.toArray its) k } := sb5.extBut _ _ hDC pD4.1
      have k5 : ∀ b o, b ≠ G.objs.size → s4.heap.get? b = some o → h5.get? b = some o := fun b o hb e => sb5.extBut b o hb e
      have hC4 : H3 G.objs.size = none := I4.free
      have hok4 : HOk X.prog X.w H3 s4.heap := I4.hok
      have hok5 : HOk X.prog X.w (upd H3 s2.heap.objs.size (.lst ys)) h5 := fun b u e => by
        by_cases hb : b = s2.heap.objs.size
        · subst hb
          rw [upd_same] at e
          cases e
          exact ⟨hz, its, k, rv, hD5⟩
        · rw [upd_ne hb] at e
          have nC : ∀ c u', H3 c = some u' → c ≠ G.objs.size := fun c u' q z => by rw [z, hC4] at q; cases q
          have nD : ∀ c u', H3 c = some u' → c ≠ s2.heap.objs.size := fun c u' q z => by rw [z, pD4.2.1] at q; cases q
          refine (hok4 b u e).stay (fun c v hc' q => k5 c v ?_ q) (fun c q => by rw [upd_ne (nD c _ q)]; exact q) fun c xs q => by rw [upd_ne (nD c _ q)]; exact q
          rcases hc' with z | z
          · rw [z]; exact nC b u e
          · exact nC c _ z
      have un4 : Un (frs X.stack) fp H2 H3 s2.heap s4.heap := I4.base
      have neC : ∀ b o, s2.heap.get? b = some o → b ≠ G.objs.size := fun b o e => Nat.ne_of_lt (Nat.lt_of_lt_of_le (Heap.lt_size e) hCle)
      have neD : ∀ b o, s2.heap.get? b = some o → b ≠ s2.heap.objs.size := fun b o e => Nat.ne_of_lt (Heap.lt_size e)
      have un5 : Un (frs X.stack) fp H2 (upd H3 s2.heap.objs.size (.lst ys)) s2.heap h5 := {
        keep := fun b o e n hb hx => k5 b o (neC b o e) (un4.keep b o e n hb hx)
        slot := fun b o e n hb hx => let ⟨sl, q⟩ := un4.slot b o e n hb hx; ⟨sl, k5 b _ (neC b o e) q⟩
        free := fun b o e n hx => by rw [upd_ne (neD b o e)]; exact un4.free b o e n hx
        there := fun b o e hx => let ⟨o', q⟩ := un4.there b o e hx; ⟨o', k5 b _ (neC b o e) q⟩
        tups := fun b xs e => by rw [upd_ne (ne_of_none e (I2.hok.fresh (Nat.le_refl _)))]; exact un4.tups b xs e
        frzs := fun b o u e => by rw [upd_ne (ne_of_none e (I2.hok.fresh (Nat.le_refl _)))]; exact un4.frzs b o u e
        tbls := fun b ps e => by rw [upd_ne (ne_of_none e (I2.hok.fresh (Nat.le_refl _)))]; exact un4.tbls b ps e }
      refine ⟨.ref s2.heap.objs.size, _, I2.call' (s' := { s4 with heap := h5 }) ((show s4.os = s2.os from I4.os)) un5 hok5 I4.bare (fun b hb => ?_), rfl, qn _ pD4.2.1⟩
      obtain ⟨_, f1, f3, f4, f5, f6⟩ := f2 b hb
      exact ⟨f4, f1, f5, f6⟩
    · refine thn (T.item (cxBlk X scope cl G.objs.size N fp s2 H2) rfl rfl rfl hc i _ s3 σ3 H3 (fun _ _ => False) I3 (stat (Nat.le_refl _) fr3) st3 go) fun r s4 ⟨u, hr, h4⟩ => ?_
      subst hr
      refine thn h4 fun _ s5 ⟨x, H5, I5, r5, y5, st5, fr5⟩ => ?_
      have I5' := I5.pinned (stat (Nat.le_refl _) fr5) (T.obj _ _ st5)
      refine thn (hg _ _ _ _ _ s5 σ3 H5 x u _ I5' r5 (step x H5 y5)) fun _ s6 ⟨σ6, H6, I6, q6⟩ => ?_
      refine thn (ht _ _ _ _ _ s6 σ6 H6 _ I6 q6) fun ok s7 ⟨H7, I7, q7⟩ => ?_
      have back : ∀ {σ8 : St} {H8 : Hp} {s8 : Shared} {pl : List (Addr × Obj)}, Inv (cxBlk X scope cl G.objs.size N fp s2 H2) (pl ++ pinsAt fp s5.heap) σ8 H8 s8 → tn (i + 1) s8.heap ∧ ∀ b ∈ fp, H8 b = none := fun {σ8 H8 s8 pl} I8 =>
        ⟨T.keep _ _ _ st5 fun b hb o e => (I8.pin (b, o) (List.mem_append_right _ (List.mem_append_right _ (mem_pinsAt hb e)))).1, fun b hb => by
          obtain ⟨o, e, d⟩ := T.obj _ _ st5 b hb
          exact (I8.pin (b, o) (List.mem_append_right _ (List.mem_append_right _ (mem_pinsAt hb e)))).2.1⟩
      cases ok with
      | false =>
        rw [if_neg Bool.false_ne_true] at q7 ⊢
        obtain ⟨m', hm, w7⟩ := hNN _ _ _ q7
        exact ⟨m', hm, i + 1, ys, its, k, σ6, H7, I7.unpinned, rv, (back I7).1, (back I7).2, w7⟩
      | true =>
        rw [if_pos rfl] at q7 ⊢
        refine thn (he _ _ _ _ _ s7 σ6 H7 _ I7 q7) fun y s8 ⟨v8, H8, I8, r8, q8⟩ => ?_
        obtain ⟨m', hm, w8⟩ := hNN _ _ _ q8
        have pD8 := I8.pin _ (List.mem_append_right _ (List.mem_append_left _ (.head _)))
        have hl := rv.length
        refine wpAny_list_append_plain ⟨k, pD8.1⟩ (fun h9 pl9 sb9 => ?_) (by rw [List.size_toArray]; omega)
        obtain ⟨k9, e9⟩ := pl9
        have e9' : h9.get? s2.heap.objs.size = some { cls := .type "list", data := .seq (List.toArray (its ++ [y])) k9 } := by rw [e9]; simp
        have I8' : Inv (cxBlk X scope cl G.objs.size N fp s2 H2) (pinsAt fp s5.heap) σ6 H8 s8 := I8.pins_of fun p hp => I8.pin p (List.mem_append_right _ (List.mem_append_right _ hp))
        have I9 : Inv (cxBlk X scope cl G.objs.size N fp s2 H2) (pinsAt fp s5.heap) σ6 H8 { s8 with heap := h9 } := I8'.turned (it := s2.heap.objs.size) (t' := s8.toks) (fun b o hb e => sb9.extBut b o hb e) pD8.2.1 pD8.2.2.1 (.inr (Nat.le_refl _))
          (fun x c e z => by
            obtain ⟨vc, oc, hoc, hd⟩ := I8.cell x c e
            rw [z, pD8.1] at hoc
            cases hoc
            cases hd)
          fun p hp z => by
            have hp' : p ∈ pinsAt fp s5.heap := by simpa [cxBlk] using hp
            obtain ⟨q1, q2⟩ := of_pinsAt hp'
            obtain ⟨ob, eb, _⟩ := T.obj _ _ st2 p.1 q1
            exact Nat.lt_irrefl _ (by have := Heap.lt_size eb; rw [z] at this; exact this)
        have hk9 : ∀ b ∈ fp, ∀ o, s8.heap.get? b = some o → h9.get? b = some o := fun b hb o e => sb9.extBut b o (fun z => by
          obtain ⟨ob, eb, _⟩ := T.obj _ _ st2 b hb
          exact Nat.lt_irrefl _ (by have := Heap.lt_size eb; rw [z] at this; exact this)) e
        refine ⟨m', hm, i + 1, ys ++ [v8], its ++ [y], k9, σ6, H8, I9.pins_of fun p hp => ?_, rv.append (.cons r8 .nil), T.keep _ _ _ (back I8).1 hk9, (back I8).2, w8⟩
        have e : p = (s2.heap.objs.size, { cls := .type "list", data := .seq (List.toArray (its ++ [y])) k9 }) := by simpa using hp
        subst e
        exact ⟨e9', pD8.2.1, pD8.2.2.1, pD8.2.2.2.1, fun v z => nomatch z⟩
  exact codeAny_compStart_list (loop _ rfl) (T.self _ 0 _ _ _ (T.keep _ _ _ st2 fun b _ o e => old b o e) (loop _ rfl))
theorem lc_tup {K : PySem.W.Frag} {a : Addr} {xs : List V} {g : TG} {tt : TT} {te : TE} {σ : St} {H : Hp} {Q : VK} (Pv : Nat → List V → St → Hp → Prop) (hz : xs.length ≤ sizeLine) (h0 : Pv 0 [] σ H) (hl : ∀ i ys σ H, i ≤ xs.length → Pv i ys σ H → SqT K H a xs ∧ ys.length ≤ i)
    (hs : ∀ i x ys σ H, xs[i]? = some x → Pv i ys σ H → g x σ H fun σ3 H3 => tt σ3 H3 fun b H4 => if b = true then te σ3 H4 fun v H5 => Pv (i + 1) (ys ++ [v]) σ3 H5 else Pv (i + 1) ys σ3 H4)
    (hd : ∀ ys σ H, Pv xs.length ys σ H → ∀ p, H p = none → Q (.ref p) (upd H p (.lst ys))) :
    ∃ W : Nat → Nat → List V → St → Hp → Prop, (∃ m, W 0 m [] σ H) ∧ ∀ i m ys σ' H', W i m ys σ' H' →
      ((Itt K a).stop i H' ∧ ys.length ≤ sizeLine ∧ ∀ p, H' p = none → Q (.ref p) (upd H' p (.lst ys))) ∨
      ((Itt K a).go i H' ∧ ys.length < sizeLine ∧ ∃ N : List V → St → Hp → Prop, (∀ zs σ2 H2, N zs σ2 H2 → ∃ m', m' < m ∧ W (i + 1) m' zs σ2 H2) ∧ ∀ x H2, (Itt K a).yld i H' x H2 → g x σ' H2 fun σ3 H3 => tt σ3 H3 fun b H4 =>
        if b = true then te σ3 H4 fun v H5 => N (ys ++ [v]) σ3 H5 else N ys σ3 H4) := by
  refine ⟨fun i m ys σ H => m = xs.length - i ∧ i ≤ xs.length ∧ Pv i ys σ H, ⟨xs.length, by simp, Nat.zero_le _, h0⟩, ?_⟩
  rintro i m ys σ H ⟨rfl, hi, p⟩
  obtain ⟨q, ql⟩ := hl i ys σ H hi p
  by_cases hlt : i < xs.length
  · refine .inr ⟨⟨xs, xs[i], q, by simp [hlt]⟩, by omega, Pv (i + 1), fun zs σ' H' p' => ⟨xs.length - (i + 1), by omega, rfl, hlt, p'⟩, fun x H' y => ?_⟩
    obtain ⟨e, y⟩ := y
    subst e
    exact hs i x ys σ _ (y xs q) p
  · have e : i = xs.length := by omega
    subst e
    exact .inl ⟨⟨xs, q, Nat.le_refl _⟩, by omega, hd ys σ H p⟩
end L2
set_option Elab.async false
set_option linter.all false
set_option maxRecDepth 100000
namespace L2
open PySem PySem.Spec PyProof.Rows
def BM (mg : Str → Option Value) (h : Heap) : Prop :=
  ∃ bm ob, mg "__builtins__" = some (.ref bm) ∧ bm ≠ builtinsNs ∧ h.get? bm = some ob ∧ ob.cls = .type "module" ∧ ob.dict = some builtinsNs ∧ ob.data = .plain
theorem law_callT {P : Program} {w : World} {K : PySem.W.Frag} {mg mb : Str → Option Value} {CX : CXT} {k : Nat} {fa a : Addr} {fd : FuncData} {x : Str} {sp : Sp} {s₁ : Shared} {vs : List Value} {ns : List Int} {ts : List Addr}
    (KX : K.In s₁.heap) (hns : s₁.heap.Ns mainGlobals mg) (hb : s₁.heap.Ns builtinsNs mb) (hbb : ∀ x : Str, x ≠ "__name__" → mb x = bootBuiltins x) (hlim : s₁.heap.NoLimit) (hg : s₁.gens = #[])
    (ha : s₁.heap.get? a = some { cls := .type "list", data := .seq vs.toArray }) (hi : IntsAre vs ns) (hl : ns.length ≤ sizeLine) (hr : Room k callerA)
    (hT : ∀ Pt ∈ ts, s₁.heap.get? Pt = some (PySem.W.tabObj #[]) ∧ isCodeTable s₁.heap Pt) (hKn : PySem.W.noTabs K = true) (hbm : BM mg s₁.heap)
    (F : ∀ base : Heap, K.In base → base.Ns mainGlobals mg → BM mg base → FnOk P w K mg base CX k fa fd [x] sp) (hbind : ∀ (s : Shared) (u : Value), BindsTo s fd ⟨[u], []⟩ [(x, u)])
    (hsp : ∀ H : Hp, (∀ Pt ∈ ts, H Pt = some (.tbl #[])) → SqL K H a (ns.map V.int) → sp [.ref a] H (fun v _ => v = .bl true) fun _ _ _ => False)
    (hCX : ∀ H e s', CX [] H s₁ (fun _ _ _ => False) e s' → False) :
    codeAny (model P w) callerA (.call (.ref fa) ⟨[.ref a], []⟩) (fun r s' => r = .ok (.ret (.bool true)) ∧ OldK s₁.heap s'.heap ∧ s'.os = s₁.os ∧ AllBare s'.gens) s₁ := by
  have rv := vals_ints hi
  have lenV := hi.length
  have aT : a ∉ ts := fun z => by
    have e := (hT a z).1
    rw [ha] at e
    cases e
  have core : ∀ H : Hp, SqL K H a (ns.map V.int) → HOk P w H s₁.heap → (∀ b, H b ≠ none → b = a ∨ b ∈ ts) → (H a ≠ none → K.lookup a = none) → (∀ u, H a = some u → ∃ o xs, u = .frz o (.lst xs)) → (∀ Pt ∈ ts, H Pt = some (.tbl #[])) →
      codeAny (model P w) callerA (.call (.ref fa) ⟨[.ref a], []⟩) (fun r s' => r = .ok (.ret (.bool true)) ∧ OldK s₁.heap s'.heap ∧ s'.os = s₁.os ∧ AllBare s'.gens) s₁ := by
    intro H hS hok hA hK hfz htb
    have base_of : ∀ {b : Addr} {o : Obj}, s₁.heap.get? b = some o → H b = none → (hidT s₁.heap H).get? b = some o := fun e n => hidT_get e n
    have free_of : ∀ {b : Addr} {o : Obj}, s₁.heap.get? b = some o → o ≠ { cls := .type "list", data := .seq vs.toArray } → o ≠ PySem.W.tabObj #[] → H b = none := fun {b o} e n1 n2 => by
      cases q : H b with
      | none => rfl
      | some u =>
        rcases hA b (by rw [q]; simp) with z | z
        · subst z
          rw [ha] at e; cases e
          exact absurd rfl n1
        · rw [(hT b z).1] at e; cases e
          exact absurd rfl n2
    have noA : ∀ {b : Addr} {o : Obj} {es : Array DictEntry} {ep : Nat}, s₁.heap.get? b = some o → o.data = .dict es ep → H b = none := fun {b o es ep} e d =>
      free_of e (fun z => by rw [z] at d; cases d) fun z => by rw [z] at d; cases d
    have nsK : ∀ {b : Addr} {m : Str → Option Value}, s₁.heap.Ns b m → (hidT s₁.heap H).Ns b m := fun {b m} ⟨o, es, ep, e, d, r⟩ => ⟨o, es, ep, base_of e (noA e d), d, r⟩
    have hKb : K.In (hidT s₁.heap H) := fun b o e => base_of (KX b o e) (by
      cases q : H b with
      | none => rfl
      | some u =>
        rcases hA b (by rw [q]; simp) with z | z
        · subst z
          rw [hK (by rw [q]; simp)] at e; cases e
        · have e1 := (hT b z).1
          rw [KX b o e] at e1
          cases e1
          have h2 := List.all_eq_true.mp hKn (b, _) (PySem.W.mem_of_lookupK e)
          exact absurd (show false = true from h2) Bool.false_ne_true)
    have hM : Mod K mg (hidT s₁.heap H) := ⟨hKb, nsK hns, ⟨mb, nsK hb, hbb⟩, let ⟨mc, h1, h2⟩ := hlim; ⟨mc, nsK h1, h2⟩⟩
    have hBM : BM mg (hidT s₁.heap H) := by
      obtain ⟨bm, ob, b1, b2, b3, b4, b5⟩ := hbm
      exact ⟨bm, ob, b1, b2, base_of b3 (free_of b3 (fun z => by rw [z] at b4; exact absurd (Value.type.inj b4) (by decide)) fun z => by rw [z] at b4; cases b4), b4, b5⟩
    have e0 : Env0 P w K mg (hidT s₁.heap H) callerA [] s₁ H := ⟨rfl, hM, fun b o e => of_hidT e, Nat.le_of_eq (hidT_size _ _), trivial, fun b hb => absurd (show b ∈ ([] : List Addr) from hb) (by simp), hok, .of_eq hg⟩
    refine codeAny_mono ((F _ hKb (nsK hns) hBM).run callerA [] s₁ H ⟨[.ref a], []⟩ [.ref a] [.ref a] _ _ hr e0 (hbind s₁ (.ref a)) (.cons rfl .nil) (hsp H htb hS)) fun r s' h => ?_
    cases r with
    | error e => exact (hCX H e s' h).elim
    | ok fl =>
      cases fl with
      | next => exact False.elim h
      | brk => exact False.elim h
      | cont => exact False.elim h
      | ret u =>
        obtain ⟨v, H', os, bare, un, hok', r', q⟩ := h
        have q' : v = .bl true := q
        subst q'
        obtain rfl : u = Value.bool true := r'
        have key : ∀ b o, s₁.heap.get? b = some o → s'.heap.get? b = some o ∨ (b ∈ ts ∧ o = PySem.W.tabObj #[] ∧ ∃ ps, s'.heap.get? b = some (PySem.W.tabObj ps)) := fun b o e => by
          cases q : H b with
          | none => exact .inl (un.keep b o e q (by intro z; exact absurd (show b ∈ ([] : List Addr) from z) (by simp)) (by simp))
          | some u =>
            rcases hA b (by rw [q]; simp) with z | z
            · subst z
              obtain ⟨ob, xs, rfl⟩ := hfz u q
              have z2 := un.frzs b ob _ q
              obtain ⟨e1, _⟩ := hok b _ q
              obtain ⟨e2, _⟩ := hok' b _ z2
              rw [e] at e1; cases e1
              exact .inl e2
            · have e1 := (hT b z).1
              rw [e] at e1; cases e1
              obtain ⟨more, z2⟩ := un.tbls b _ (htb b z)
              exact .inr ⟨z, rfl, _, hok' b _ z2⟩
        refine ⟨rfl, ⟨fun b o e => ?_, fun b o e => ?_⟩, os, bare⟩
        · rcases key b o e with z | ⟨z, rfl, ps, z2⟩
          · exact .inl z
          · exact .inr (.inl ⟨(hT b z).2, rfl, #[], ps, rfl, by rw [z2]; simp⟩)
        · rcases key b o e with z | ⟨z, rfl, ps, z2⟩
          · exact ⟨_, z⟩
          · exact ⟨_, z2⟩
  have tOk : ∀ {H : Hp} {Pt : Addr}, Pt ∈ ts → ObjOk P w H s₁.heap Pt (.tbl #[]) := fun {H Pt} z => (hT Pt z).1
  cases hk : K.lookup a with
  | some o =>
    have e := KX a o hk
    rw [ha] at e
    cases e
    refine core (fun b => if b ∈ ts then some (.tbl #[]) else none) (.inr ⟨_, vs.toArray, _, hk, rfl, rfl, rfl, by rw [List.size_toArray, lenV]; exact hl, by simpa using rv⟩) (fun b u z => ?_) (fun b z => ?_) (fun z => absurd (if_neg aT) z) (fun u z => by rw [if_neg aT] at z; cases z) fun Pt z => if_pos z
    · by_cases hb : b ∈ ts
      · have z' := (if_pos hb).symm.trans z
        cases z'
        exact tOk hb
      · have z' := (if_neg hb).symm.trans z
        cases z'
    · by_cases hb : b ∈ ts
      · exact .inr hb
      · exact absurd (if_neg hb) z
  | none =>
    refine core (fun b => if b = a then some (.frz { cls := .type "list", data := .seq vs.toArray } (.lst (ns.map V.int))) else if b ∈ ts then some (.tbl #[]) else none) (.inl (.inr ⟨{ cls := .type "list", data := .seq vs.toArray }, if_pos rfl⟩)) (fun b u z => ?_) (fun b z => ?_) (fun _ => hk)
      (fun u z => by rw [if_pos rfl] at z; cases z; exact ⟨_, _, rfl⟩) fun Pt z => by rw [if_neg (fun (q : Pt = a) => aT (q ▸ z)), if_pos z]
    · by_cases hb : b = a
      · have z' := (if_pos hb).symm.trans z
        cases z'
        subst hb
        exact ⟨ha, by rw [List.length_map]; exact hl, vs, _, rv, ha⟩
      · have z' := (if_neg hb).symm.trans z
        by_cases hb2 : b ∈ ts
        · rw [if_pos hb2] at z'
          cases z'
          exact tOk hb2
        · rw [if_neg hb2] at z'
          cases z'
    · by_cases hb : b = a
      · exact .inl hb
      · by_cases hb2 : b ∈ ts
        · exact .inr hb2
        · exact absurd ((if_neg hb).trans (if_neg hb2)) z
theorem walk_ofT {l : PySem.W.OpenLaw} {n k : Nat} {q : Program} {loose : List Str} {XP : (Str → Option Value) → Heap → Prop} {YP : World → Heap → Prop} {d : DefRec} {K : Params → PySem.W.Frag} {sp : PySem.W.Frag → Sp} {x : Str} {ts : List Addr}
    (hn : l.most = some n) (hn2 : n ≤ sizeLine) (hdf : d.params.defaults = []) (hr : Room k callerA)
    (hY : ∀ (w : World) (h : Heap), YP w h → (K w.params).In h) (hY2 : ∀ (w : World) (h : Heap), YP w h → ∀ Pt ∈ ts, h.get? Pt = some (PySem.W.tabObj #[]))
    (hKn : ∀ w : World, PySem.W.noTabs (K w.params) = true) (hC : ∀ w : World, ∀ Pt ∈ ts, ∃ c, PySem.W.codeHdIn (K w.params) c Pt = true)
    (F : ∀ (w : World) (mg : Str → Option Value) (fa : Addr) (h : Heap), (K w.params).In h → h.Ns mainGlobals mg → mg d.name = some (.ref fa) →
      ∃ fd : FuncData, (∀ (s : Shared) (u : Value), BindsTo s fd ⟨[u], []⟩ [(x, u)]) ∧
        ∀ base : Heap, (K w.params).In base → base.Ns mainGlobals mg → BM mg base → FnOk l.prog w (K w.params) mg base CX0 k fa fd [x] (sp (K w.params)))
    (hsp : ∀ (K : PySem.W.Frag) (H : Hp) (a : Addr) (ns : List Int), ns.length ≤ n → (∀ Pt ∈ ts, H Pt = some (.tbl #[])) → SqL K H a (ns.map V.int) → sp K [.ref a] H (fun v _ => v = .bl true) fun _ _ _ => False) :
    PySem.W.WalkO q loose XP YP l.row.toRowW d [] (fun f vs => PySem.call f vs) := by
  refine Att.attach_call hn hdf fun w s₀ s₁ mg mb fa o pm cd doc a vs ns G Y ho hd hcd hmg hobj hints hlen hg => ?_
  have KX := hY w _ Y
  obtain ⟨fd, hb, hF⟩ := F w mg fa _ KX G.T.g hmg
  refine law_callT KX G.T.g G.T.b G.T.builtins G.T.nolimit hg hobj hints (Nat.le_trans hlen hn2) hr (fun Pt hP => ⟨hY2 w _ Y Pt hP, ?_⟩) (hKn w) G.T.bmain hF hb (fun H hT hS => hsp (K w.params) H a ns hlen hT hS) fun H e s' z => z
  obtain ⟨c, hc⟩ := hC w Pt hP
  exact ((PySem.W.codeHd_of_K KX hc).tab (hY2 w _ Y Pt hP)).isCodeTable
def cxLam (P : Program) (w : World) (K : PySem.W.Frag) (mg : Str → Option Value) (base : Heap) (N : List Str) (qual : Str) (scope : Scope) (cl : List (Str × Addr)) (f c' : Addr) (A : Around) (outer : List Env) (s : Shared) (H : Hp) : Cx where
  prog := P
  w := w
  K := K
  mg := mg
  base := base
  A := A.deeper (PySem.W.envX qual scope s.heap.objs.size f (.ref c') cl)
  N := N
  s₀ := s
  H₀ := H
  env := PySem.W.envX qual scope s.heap.objs.size f (.ref c') cl
  outer := outer
  stack := PySem.W.envX qual scope s.heap.objs.size f (.ref c') cl :: outer
  ex := []
  calm := true
  fn := fun _ => false
  pn := []
  xe := fun _ _ => False
structure Lam (x : Str) (fr : List Str) (params : Arguments) (scope : Scope) : Prop where
  kind : scope.kind = .function
  co : scope.isCoroutine = false
  gen : scope.isGenerator = false
  cell : ∀ y ∈ scope.names, y.2 ≠ .cell
  par : scope.names.lookup x = some .local
  bind : ∀ (nm qual : Str) (body : Expr) (cl : List (Str × Addr)) (pm cdv ct u : Value), bindArgs (PySem.W.kla_fn nm qual params body scope cl pm cdv ct) ⟨[u], []⟩ = pure [(x, u)]
  free : ∀ y ∈ fr, scope.names.lookup y = some .free
def ClosAt (cl : List (Str × Addr)) (H : Hp) (h : Heap) (fr : List Str) (fv : List V) : Prop :=
  fr.length = fv.length ∧ ∀ (i : Nat) (y : Str) (v : V), fr[i]? = some y → fv[i]? = some v → ∃ u c, RelV v u ∧ cl.lookup y = some c ∧ h.IsCell c (some u)
theorem lam_run {P : Program} {w : World} {K : PySem.W.Frag} {mg : Str → Option Value} {base : Heap} {k : Nat} {A : Around} {outer : List Env} {s : Shared} {H : Hp} {nm qual : Str} {params : Arguments} {body : Expr} {scope : Scope} {cl : List (Str × Addr)} {pm ctv u : Value} {c' f : Addr} {x : Str} {fr : List Str} {fv : List V} {v : V} {te : TE} {Q : VK}
    (L : Lam x fr params scope) (hr : Room (k + 1) A) (e0 : Env0 P w K mg base A outer s H)
    (hf : s.heap.get? f = some (PySem.W.kla_obj nm qual params body scope cl pm c' ctv)) (hcd : s.heap.CodeRec (.ref c') qual)
    (hinj : ∀ y z c, cl.lookup y = some c → cl.lookup z = some c → y = z) (hhas : ∀ y ∈ scope.names, y.2 = .free → (cl.lookup y.1).isSome = true) (hcells : ∀ y c, cl.lookup y = some c → (∃ v, s.heap.IsCell c v) ∧ H c = none)
    (hC : ClosAt cl H s.heap fr fv) (rv : RelV v u)
    (hbody : PE (cxLam P w K mg base (x :: fr) qual scope cl f c' A outer s H) body te) (hq : te (some v :: fv.map some) H Q) :
    codeAny (model P w) A (.call (.ref f) ⟨[u], []⟩) (CR CX0 outer P w H s Q E0) s := by
  have lim : s.heap.NoLimit := e0.mod.nolimit.keeps fun b o e => (e0.bs b o e).1
  refine PySem.W.kla_callFunE hr.depth hf rfl L.co L.gen rfl hcd ?_
  rw [L.bind]
  refine wpAny_pure (wpAny_newFunctionEnv L.cell (fun y hy => ?_) (fun h₁ hns hsb => ⟨lim.fresh _ hsb, ?_⟩) L.kind)
  · obtain rfl : y = (x, u) := List.mem_singleton.mp hy
    exact L.par
  show codeAny _ _ (.expr body (PySem.W.envX qual scope s.heap.objs.size f (.ref c') cl)) _ _
  have hk₁ : ∀ b o, s.heap.get? b = some o → h₁.get? b = some o := fun b o e => hsb.extBut b o (Nat.ne_of_lt (Heap.lt_size e)) (Heap.get?_push_of_some _ e)
  have cellK : ∀ c v, s.heap.IsCell c v → h₁.IsCell c v := fun c v ⟨o, ho, hd⟩ => ⟨o, hk₁ _ _ ho, hd⟩
  have noA : ∀ b : Addr, b ∉ (cxLam P w K mg base (x :: fr) qual scope cl f c' A outer s H).ex := fun b z => absurd (show b ∈ ([] : List Addr) from z) (by simp)
  have I : Inv (cxLam P w K mg base (x :: fr) qual scope cl f c' A outer s H) [] (some v :: fv.map some) H { s with heap := h₁, toks := s.toks + [(x, u)].length } := by
    refine ⟨⟨e0.mod, L.kind, rfl, rfl, Nat.le_refl _, hinj, fun y hy => ?_, fun y c h _ => (Bool.false_ne_true h).elim, fun _ => hr.hd, Around.frames_deeper e0.frames, .inr ⟨rfl, rfl⟩, fun b z => absurd z (noA b), e0.bs, e0.bsz, fun b _ _ => noA b, fun b z => absurd z (noA b), e0.funs, e0.frf⟩,
      rfl, e0.bare, Un.kept hk₁, ⟨_, hns, fun i y z h1 h2 h3 => ?_⟩, fun y c h => ?_, e0.hok.fresh (Nat.le_refl _), fun y c h => (hcells y c h).2, fun p hp => absurd (show p ∈ ([] : List (Addr × Obj)) from hp) (by simp), e0.hok.kept hk₁, ?_⟩
    · have hy' : scope.names.lookup y = some .cell ∨ scope.names.lookup y = some .free := hy
      rcases hy' with q | q
      · exact absurd rfl (L.cell _ (PySem.mem_of_lookup q))
      · exact Option.isSome_iff_exists.mp (hhas (y, .free) (PySem.mem_of_lookup q) rfl)
    · cases i with
      | zero =>
        have e1 : x = y := by simpa using (show (x :: fr)[0]? = some y from h1)
        have e2 : v = z := by simpa using h2
        subst e1
        subst e2
        refine ⟨u, rv, .inl ⟨L.par, ?_⟩⟩
        simp
      | succ j =>
        have e1 : fr[j]? = some y := by simpa using (show (x :: fr)[j + 1]? = some y from h1)
        have e2 : fv[j]? = some z := by
          have := h2
          simp only [List.getElem?_cons_succ, List.getElem?_map] at this
          cases q : fv[j]? with
          | none => rw [q] at this; cases this
          | some a => rw [q] at this; cases this; rfl
        obtain ⟨u', c, r, l, ce⟩ := hC.2 j y z e1 e2
        exact ⟨u', r, .inr ⟨.inr (L.free y (List.mem_of_getElem? e1)), c, l, cellK _ _ ce⟩⟩
    · obtain ⟨⟨z, q⟩, _⟩ := hcells y c h
      exact ⟨z, cellK _ _ q⟩
    · show (some v :: fv.map some).length = (x :: fr).length
      simp [hC.1]
  refine PySem.W.kla_codeExpr (wpAny_mono (hbody [] _ _ H Q I hq) (fun z s' hs => ?_) fun _ _ z => z.elim)
  obtain ⟨v', H', J, r', q'⟩ := hs
  exact ⟨v', H', J.os, J.bare, J.base, J.hok, r', q'⟩
def TabE (qual : Str) (c' : Addr) : HO := .ext fun h => h.CodeRec (.ref c') qual
def TabI (P : Addr) (pos : Pos) (qual : Str) (H : Hp) : Prop :=
  H P = some (.tbl #[]) ∨ ∃ c', H P = some (.tbl #[rawInt pos.line, rawInt pos.col, .ref c']) ∧ H c' = some (TabE qual c')
structure Gr (P : Addr) (pos : Pos) (qual : Str) (H H' : Hp) : Prop where
  keep : ∀ b o, H b = some o → b ≠ P → H' b = some o
  tab : TabI P pos qual H'
theorem Gr.refl {P : Addr} {pos : Pos} {qual : Str} {H : Hp} (h : TabI P pos qual H) : Gr P pos qual H H := ⟨fun _ _ e _ => e, h⟩
theorem TabI.same {P : Addr} {pos : Pos} {qual : Str} {H H' : Hp} (h : TabI P pos qual H) (s : Same H H') : TabI P pos qual H' := by
  rcases h with h | ⟨c', h1, h2⟩
  · exact .inl (s _ _ h)
  · exact .inr ⟨c', s _ _ h1, s _ _ h2⟩
theorem Gr.same {P : Addr} {pos : Pos} {qual : Str} {H H1 H2 : Hp} (a : Gr P pos qual H H1) (b : Same H1 H2) : Gr P pos qual H H2 := ⟨fun c o e n => b c o (a.keep c o e n), a.tab.same b⟩
theorem codeRec_ext {h : Heap} {c' : Addr} {qual : Str} (x : h.CodeRec (.ref c') qual) : ∃ o, h.get? c' = some o := by
  obtain ⟨c, oc, vs, t, e, ho, _⟩ := x
  cases e
  exact ⟨oc, ho⟩
theorem codeRec_at {h1 h2 : Heap} {c' : Addr} {qual : Str} (x : h1.CodeRec (.ref c') qual) (k : ∀ o, h1.get? c' = some o → h2.get? c' = some o) : h2.CodeRec (.ref c') qual := by
  obtain ⟨c, oc, vs, t, e, ho, r⟩ := x
  cases e
  exact ⟨c', oc, vs, t, rfl, k _ ho, r⟩
theorem lam_make {X : Cx} {pins : List (Addr × Obj)} {σ : St} {H : Hp} {s : Shared} {qual0 : Str} {params : Arguments} {body : Expr} {scope : Scope} {cl : List (Str × Addr)} {c P : Addr} {pos : Pos} {E : Value → Shared → Prop} {Q : Value → Shared → Prop}
    (I : Inv X pins σ H s) (hbm : BM X.mg X.base) (hcl : closureFor scope X.env = pure cl) (hcode : X.env.code = .ref c) (hC : PySem.W.codeHdIn X.K c P = true) (hq0 : X.env.qual ++ "<lambda>" = qual0) (hdef : defaultsOf params X.env = ([], []))
    (htab : TabI P pos qual0 H)
    (k : ∀ f c' pm ctv s' H', Inv X pins σ H' s' → Gr P pos qual0 H H' → s'.heap.get? f = some (PySem.W.kla_obj "<lambda>" qual0 params body scope cl pm c' ctv) → s.heap.objs.size ≤ f → H' f = none → H' c' = some (TabE qual0 c') → Q (.ref f) s') :
    wpAny (model X.prog X.w) X.A (eval (.Lambda params body scope pos) X.env) Q E s := by
  refine PySem.W.kla_eval hdef ?_
  rw [hq0]
  have hgs : s.heap.Ns mainGlobals X.mg := I.mod.glob.keeps I.bk
  have Ch : PySem.W.CodeHd s.heap c P := PySem.W.codeHd_of_K I.kIn hC
  obtain ⟨bm, ob, b1, b2, b3, b4, b5, b6⟩ := hbm
  have b3' := I.bk _ _ b3
  have bmH : H bm = none := (I.bs _ _ b3).2
  have hbG : bm ≠ mainGlobals := fun q => by
    obtain ⟨o, es, ep, e, hd, _⟩ := hgs
    rw [q, e] at b3'; cases b3'; rw [hd] at b6; cases b6
  rcases htab with h0 | ⟨c', h1, h2⟩
  · have hP : s.heap.get? P = some (PySem.W.tabObj #[]) := I.hok P _ h0
    have hgP : mainGlobals ≠ P := fun q => by
      obtain ⟨o, es, ep, e, hd, _⟩ := hgs
      rw [q, hP] at e; cases e; cases hd
    have hbP : bm ≠ P := fun q => by rw [q, h0] at bmH; cases bmH
    refine PySem.W.kla_makeFunction (mg := X.mg) hcl I.ok.glob hgs hcode Ch hP trivial rfl hgP ⟨bm, ob, b1, b2, hbG, hbP, b3', b4, b5, b6⟩ fun c' ctv h' tk hx hge hlt hrec htb => ?_
    have hrec' : (h'.push (PySem.W.kla_obj "<lambda>" qual0 params body scope cl ((X.mg "__name__").getD .none) c' ctv)).CodeRec (.ref c') qual0 := codeRec_at hrec fun o e => Heap.get?_push_of_some _ e
    have hPc : P ≠ c' := fun z => Nat.lt_irrefl _ (Nat.lt_of_lt_of_le (Heap.lt_size hP) (by rw [z]; exact hge))
    have kp : ∀ b o, b ≠ P → s.heap.get? b = some o → (h'.push (PySem.W.kla_obj "<lambda>" qual0 params body scope cl ((X.mg "__name__").getD .none) c' ctv)).get? b = some o := fun b o hb e => Heap.get?_push_of_some _ (hx b o hb e)
    have hc0 : H c' = none := I.hok.fresh hge
    have nP : ∀ b, H b = none → b ≠ P := fun b n z => by rw [z, h0] at n; cases n
    have hN : ∀ b u, H b = some u → b ≠ c' := fun b u e => ne_of_none e hc0
    have htb' : (h'.push (PySem.W.kla_obj "<lambda>" qual0 params body scope cl ((X.mg "__name__").getD .none) c' ctv)).get? P = some (PySem.W.tabObj #[rawInt pos.line, rawInt pos.col, .ref c']) := by
      have := Heap.get?_push_of_some (PySem.W.kla_obj "<lambda>" qual0 params body scope cl ((X.mg "__name__").getD .none) c' ctv) htb
      simpa using this
    have hsz : s.heap.objs.size ≤ h'.objs.size := Nat.le_of_lt (Nat.lt_of_le_of_lt hge hlt)
    refine k _ c' _ ctv _ (upd (upd H P (.tbl #[rawInt pos.line, rawInt pos.col, .ref c'])) c' (TabE qual0 c')) (I.un (t' := tk) ?_ ?_) ⟨fun b o e n => ?_, .inr ⟨c', ?_, upd_same⟩⟩ (Heap.get?_push_size _ rfl) hsz ?_ upd_same
    · exact {
        keep := fun b o e n _ _ => kp b o (nP b n) e
        slot := fun b o e n _ _ => ⟨o.slots, kp b o (nP b n) e⟩
        free := fun b o e n _ => by rw [upd_ne (Nat.ne_of_lt (Nat.lt_of_lt_of_le (Heap.lt_size e) hge)), upd_ne (nP b n)]; exact n
        there := fun b o e _ => by
          by_cases hb : b = P
          · exact ⟨_, hb ▸ htb'⟩
          · exact ⟨o, kp b o hb e⟩
        tups := fun b xs e => by rw [upd_ne (hN b _ e), upd_ne (fun z => by rw [z, h0] at e; cases e)]; exact e
        frzs := fun b o u e => by rw [upd_ne (hN b _ e), upd_ne (fun z => by rw [z, h0] at e; cases e)]; exact e
        tbls := fun b ps e => by
          by_cases hb : b = P
          · subst hb
            rw [h0] at e
            cases e
            exact ⟨#[rawInt pos.line, rawInt pos.col, .ref c'], by rw [upd_ne hPc, upd_same]; simp⟩
          · exact ⟨#[], by rw [upd_ne (hN b _ e), upd_ne hb, e]; simp⟩ }
    · intro b u e
      by_cases hb : b = c'
      · subst hb
        rw [upd_same] at e
        cases e
        exact ⟨hrec', codeRec_ext hrec', fun h1 h2 x q => codeRec_at x fun o e => q o e⟩
      · rw [upd_ne hb] at e
        by_cases hb2 : b = P
        · subst hb2
          rw [upd_same] at e
          cases e
          exact htb'
        · rw [upd_ne hb2] at e
          refine (I.hok b u e).stay (fun d v hd q => kp d v ?_ q) (fun d q => by rw [upd_ne (hN d _ q), upd_ne (fun z => by rw [z, h0] at q; cases q)]; exact q) fun d xs q => by rw [upd_ne (hN d _ q), upd_ne (fun z => by rw [z, h0] at q; cases q)]; exact q
          rcases hd with z | z
          · rw [z]; exact hb2
          · intro z2
            rw [z2, h0] at z
            cases z
    · rw [upd_ne (hN b o e), upd_ne n]; exact e
    · rw [upd_ne hPc, upd_same]
    · rw [upd_ne (Nat.ne_of_gt hlt), upd_ne (Nat.ne_of_gt (Nat.lt_of_lt_of_le (Heap.lt_size hP) hsz))]
      exact I.hok.fresh hsz
  · have hP : s.heap.get? P = some (PySem.W.tabObj #[rawInt pos.line, rawInt pos.col, .ref c']) := I.hok P _ h1
    have hbP : bm ≠ P := fun q => by rw [q, h1] at bmH; cases bmH
    refine PySem.W.kla_makeFunctionHit (mg := X.mg) hcl I.ok.glob hgs hcode Ch hP trivial (cv := .ref c') (by simp [codeAmong, rawInt]) ⟨bm, ob, b1, b2, hbG, hbP, b3', b4, b5, b6⟩ fun ctv h' tk hk hsz => ?_
    exact k _ c' _ ctv _ H (I.kept (t' := tk) fun b o e => Heap.get?_push_of_some _ (hk b o e)) (.refl (.inr ⟨c', h1, h2⟩)) (Heap.get?_push_size _ rfl) hsz (I.hok.fresh hsz) h2
end L2
set_option Elab.async false
set_option linter.all false
set_option maxRecDepth 100000
set_option maxHeartbeats 4000000
namespace L2
open PySem PySem.Spec PyProof.Rows
theorem FpOk.pin1 {X : Cx} {pins pins' : List (Addr × Obj)} {σ : St} {H : Hp} {s : Shared} {b : Addr} {o : Obj} (f : FpOk X pins H b) (_ : Inv X pins' σ H s) (e : s.heap.get? b = some o) (d : ∀ v, o.data ≠ .cell v) :
    s.heap.get? (b, o).1 = some (b, o).2 ∧ H (b, o).1 = none ∧ (b, o).1 ≠ X.env.locals ∧ (b, o).1 ∉ X.fs ∧ ∀ v, (b, o).2.data ≠ .cell v := ⟨e, f.1, f.2.1, f.2.2.1, d⟩
section
variable {X : Cx} {pins : List (Addr × Obj)} {σ : St} {H : Hp} {s : Shared} {A : Around} {E : Value → Shared → Prop} {a kS : Addr} {b : Bool} {vs : List Value} {kz : List Int} {keys : Array Value} {e e1 : Nat} {P : PySem.Fin → Shared → Prop}
theorem Inv.own1 {c : Addr} {h' : Heap} (I : Inv X pins σ H s) (f : FpOk X pins H c) (hs : Heap.SameBut c s.heap h') : Inv X pins σ H { s with heap := h' } :=
  I.turned (t' := s.toks) (it := c) (fun d o hd q => (hs.2 d hd).trans q) f.1 f.2.1 f.2.2.2.1 f.2.2.2.2.1 f.2.2.2.2.2
theorem Inv.track {D : Addr} {o : HO} (I : Inv X pins σ H s) (f : FpOk X pins H D) (hD : X.s₀.heap.objs.size ≤ D) (new : ObjOk X.prog X.w (upd H D o) s.heap D o) : Inv X pins σ (upd H D o) s := by
  have ne : ∀ c u, H c = some u → c ≠ D := fun c u q => ne_of_none q f.1
  refine ⟨I.ok, I.os, I.bare, ⟨I.base.keep, I.base.slot, fun c ob q n hx => ?_, I.base.there, fun c xs q => ?_, fun c ob u q => ?_, fun c ps q => ?_⟩, I.loc, I.cell, ?_, fun x c q => ?_, fun p hp => ?_, fun c u q => ?_, I.len⟩
  · rw [upd_ne (Nat.ne_of_lt (Nat.lt_of_lt_of_le (Heap.lt_size q) hD))]
    exact I.base.free c ob q n hx
  · have z := I.base.tups c xs q
    rw [upd_ne (ne c _ z)]; exact z
  · have z := I.base.frzs c ob u q
    rw [upd_ne (ne c _ z)]; exact z
  · obtain ⟨more, z⟩ := I.base.tbls c ps q
    exact ⟨more, by rw [upd_ne (ne c _ z)]; exact z⟩
  · rw [upd_ne (Ne.symm f.2.1)]; exact I.free
  · rw [upd_ne (f.2.2.2.2.1 x c q)]; exact I.freeC x c q
  · obtain ⟨p1, p2, p3⟩ := I.pin p hp
    exact ⟨p1, by rw [upd_ne (f.2.2.2.2.2 p hp)]; exact p2, p3⟩
  · by_cases hc : c = D
    · subst hc; rw [upd_same] at q; cases q; exact new
    · rw [upd_ne hc] at q
      exact (I.hok c u q).stay (fun _ _ _ r => r) (fun d r => by rw [upd_ne (ne d _ r)]; exact r) fun d xs r => by rw [upd_ne (ne d _ r)]; exact r
theorem skey_tail {st : SortSt} (I : Inv X pins σ H s) (fk : FpOk X pins H kS) (fa : FpOk X pins H a) (hka : kS ≠ a) (nk : s.heap.get? kS = some (seqObj "list" keys e)) (na : s.heap.get? a = some (seqObj "list" #[] e1))
    (hk : IntsAre keys.toList kz) (hlen : kz.length = vs.length) (h64 : vs.length < 64) (hp : (arrOf st).Perm (keys.zip vs.toArray)) (hs : SortedTo (arrOf st) (arrOf st).size) (hfl : failedOf st = none)
    (h : ∀ s' out c, Inv X pins σ H s' → s'.heap.get? a = some (seqObj "list" out c) → KskOut b kz vs out.toList → P (.done (.ret .none)) s') :
    wpAny (model X.prog X.w) A (ksk_tail a b e1 (.ref kS) st) P E s := by
  have hsz : keys.size = vs.length := by
    have h1 := hk.length
    rw [Array.length_toList] at h1
    omega
  have hsz2 : (arrOf st).size = vs.length := by rw [hp.size_eq, Array.size_zip, hsz, List.size_toArray, Nat.min_self]
  have hout : (if b then ((arrOf st).map (·.2)).reverse else (arrOf st).map (·.2)).size = vs.length := by
    cases b with
    | false => simp only [Bool.false_eq_true, if_false, Array.size_map]; exact hsz2
    | true => simp only [if_true, Array.size_reverse, Array.size_map]; exact hsz2
  have s1 := Heap.SameBut.update s.heap kS (Obj.mapSeq fun _ => (#[] : Array Value))
  have na1 : (s.heap.update kS (Obj.mapSeq fun _ => (#[] : Array Value))).get? a = some (seqObj "list" #[] e1) := (s1.2 a hka.symm).trans na
  have s2 := Heap.SameBut.update (s.heap.update kS (Obj.mapSeq fun _ => (#[] : Array Value))) a (Obj.mapSeq fun _ => if b then ((arrOf st).map (·.2)).reverse else (arrOf st).map (·.2))
  obtain ⟨c2, hc2⟩ : ∃ c2, ((s.heap.update kS (Obj.mapSeq fun _ => (#[] : Array Value))).update a (Obj.mapSeq fun _ => if b then ((arrOf st).map (·.2)).reverse else (arrOf st).map (·.2))).get? a = some (seqObj "list" (if b then ((arrOf st).map (·.2)).reverse else (arrOf st).map (·.2)) c2) :=
    ⟨_, get?_update_seq na1 fun _ => if b then ((arrOf st).map (·.2)).reverse else (arrOf st).map (·.2)⟩
  have I1 := I.own1 fk s1
  have I2 := I1.own1 fa s2
  unfold ksk_tail
  try dsimp only
  refine wpAny_bind (listUpdate_at nk rfl ?_ (by rw [hsz, sizeLine_eq]; omega) (Nat.zero_le _))
  refine wpAny_bind (wpAny_letGo ?_)
  refine wpAny_bind (seqEpoch_at na1 rfl ?_)
  refine wpAny_bind (listUpdate_at na1 rfl ?_ (Nat.zero_le _) (Nat.le_trans (Nat.le_of_eq hout) (by rw [sizeLine_eq]; omega)))
  rw [hfl]
  simp only [bne_self_eq_false, Bool.false_eq_true, if_false]
  exact wpAny_pure (h _ _ c2 I2 hc2 (ksk_out hk hp hs))
theorem skey_end (I : Inv X pins σ H s) (fk : FpOk X pins H kS) (fa : FpOk X pins H a) (hka : kS ≠ a) (nk : s.heap.get? kS = some (seqObj "list" keys e)) (na : s.heap.get? a = some (seqObj "list" #[] e1))
    (hk : IntsAre keys.toList kz) (hlen : kz.length = vs.length) (h64 : vs.length < 64)
    (h : ∀ s' out c, Inv X pins σ H s' → s'.heap.get? a = some (seqObj "list" out c) → KskOut b kz vs out.toList → P (.done (.ret .none)) s') :
    wpAny (model X.prog X.w) A (ksk_end a b vs.toArray e1 (.ref kS) keys) P E s := by
  have hsz : keys.size = vs.length := by
    have h1 := hk.length
    rw [Array.length_toList] at h1
    omega
  have hzs : (keys.zip vs.toArray).size = vs.length := by rw [Array.size_zip, hsz, List.size_toArray, Nat.min_self]
  have step : ∀ t : Sem PySem.Fin, wpAny (model X.prog X.w) A t P E s → wpAny (model X.prog X.w) A (if b = true then (do let _ ← rule "list.sort.reverse"; t) else t) P E s := by
    intro t ht
    split
    · exact wpAny_bind (wpAny_rule ht)
    · exact ht
  have hstart : (if b = true then (keys.zip vs.toArray).reverse else keys.zip vs.toArray).Perm (keys.zip vs.toArray) := by
    cases b with
    | false => exact Array.Perm.refl _
    | true => exact Array.perm_iff_toList_perm.mpr (by rw [if_pos rfl, Array.toList_reverse]; exact List.reverse_perm _)
  unfold ksk_end
  try dsimp only
  refine step _ ?_
  by_cases h2 : vs.toArray.size < 2
  · rw [if_pos h2, if_pos h2]
    refine wpAny_bind (wpAny_pure ?_)
    rw [StateT.run_pure]
    refine wpAny_bind (wpAny_pure ?_)
    try dsimp only
    refine skey_tail (st := SortSt.mk' general' (if b = true then (keys.zip vs.toArray).reverse else keys.zip vs.toArray) #[] 7 none) I fk fa hka nk na hk hlen h64 hstart ?_ rfl h
    intro i j hij hj
    have hj2 : j < (if b = true then (keys.zip vs.toArray).reverse else keys.zip vs.toArray).size := hj
    rw [hstart.size_eq, hzs] at hj2
    rw [List.size_toArray] at h2
    have : i = j := by omega
    subst this
    exact Int.le_refl _
  · rw [if_neg h2, if_neg h2]
    rw [List.size_toArray] at h2
    rw [ksk_kind hk (by rw [hsz]; omega)]
    refine wpAny_bind (wpAny_pure ?_)
    refine wpAny_bind (wpAny_mono (wpS_sortRuns (a₀ := keys.zip vs.toArray) (st := SortSt.mk' oneType' (if b = true then (keys.zip vs.toArray).reverse else keys.zip vs.toArray) #[] 7 none)
      (Q := fun _ st' => (arrOf st').Perm (keys.zip vs.toArray) ∧ failedOf st' = none ∧ SortedTo (arrOf st') (keys.zip vs.toArray).size)
      (ksk_intKeys hk) ⟨hstart, rfl, rfl, rfl⟩ (by rw [hzs]; omega) (by rw [hzs]; exact h64) fun st' a1 a2 a3 => ⟨a1, a2, a3⟩) ?_ fun _ _ e => e)
    rintro ⟨⟨⟩, st'⟩ s' ⟨rfl, hp, hf, hs⟩
    try dsimp only
    exact skey_tail I fk fa hka nk na hk hlen h64 hp (by rw [hp.size_eq]; exact hs) hf h
def KeyTurn (X : Cx) (pins : List (Addr × Obj)) (σ : St) (H : Hp) (A : Around) (f v : Value) (k : Int) : Prop :=
  ∀ s' pl, Inv X (pins ++ pl) σ H s' → wpAny (model X.prog X.w) A (call f [v]) (fun u s'' => RelV (.int k) u ∧ Inv X (pins ++ pl) σ H s'') (fun _ _ => False) s'
theorem skey_rest {f : Value} (I : Inv X pins σ H s) (fk : FpOk X pins H kS) (fa : FpOk X pins H a) (hka : kS ≠ a) (nk : s.heap.get? kS = some (seqObj "list" #[] 0)) (na : s.heap.get? a = some (seqObj "list" #[] e1))
    (hlen : kz.length = vs.length) (h64 : vs.length < 64)
    (turn : ∀ (i : Nat) (v : Value) (k : Int), vs[i]? = some v → kz[i]? = some k → KeyTurn X pins σ H A f v k)
    (h : ∀ s' out c, Inv X pins σ H s' → s'.heap.get? a = some (seqObj "list" out c) → KskOut b kz vs out.toList → P (.done (.ret .none)) s') :
    wpAny (model X.prog X.w) A (ksk_rest a f b vs.toArray e1 (.ref kS)) P E s := by
  unfold ksk_rest
  refine wpAny_bind (wpAny_rule ?_)
  first
    | rw [List.forIn_toArray]
    | (rw [← Array.forIn_toList]; simp only [List.toList_toArray])
    | rw [← Array.forIn_toList]
  refine wpAny_bind (ksk_fold (fun i s' => ∃ kA e, Inv X pins σ H s' ∧ s'.heap.get? kS = some (seqObj "list" kA e) ∧ s'.heap.get? a = some (seqObj "list" #[] e1) ∧ IntsAre kA.toList (kz.take i)) vs 0 s
    ⟨#[], 0, I, nk, na, by simpa using IntsAre.nil⟩ ?step ?done)
  case step =>
    rintro j x s' hx ⟨kA, e, I', nk', na', hk⟩
    simp only [Nat.zero_add] at hk ⊢
    have hj : j < vs.length := (List.getElem?_eq_some_iff.mp hx).1
    obtain ⟨k, hkj⟩ : ∃ k, kz[j]? = some k := ⟨_, List.getElem?_eq_getElem (by omega)⟩
    have hz : kA.size ≤ vs.length := by
      have h1 := hk.length
      rw [Array.length_toList, List.length_take] at h1
      omega
    have Ip : Inv X (pins ++ [(kS, seqObj "list" kA e), (a, seqObj "list" #[] e1)]) σ H s' := I'.pins_of fun p hp => by
      rcases List.mem_append.mp hp with z | z
      · exact I'.pin p (List.mem_append_right _ z)
      · rcases List.mem_cons.mp z with z | z
        · rw [z]; exact fk.pin1 I' nk' fun v z => nomatch z
        · rw [List.mem_singleton.mp z]; exact fa.pin1 I' na' fun v z => nomatch z
    refine wpAny_bind (wpAny_attempt (wpAny_mono (turn j x k hx hkj s' _ Ip) (fun v s'' he => ?_) fun _ _ hF => hF.elim))
    obtain ⟨⟨t2, rfl⟩, I2⟩ := he
    try dsimp only
    have nk2 : s''.heap.get? kS = some (seqObj "list" kA e) := (I2.pin (kS, seqObj "list" kA e) (List.mem_append_right _ (List.mem_append_right _ (.head _)))).1
    have na2 : s''.heap.get? a = some (seqObj "list" #[] e1) := (I2.pin (a, seqObj "list" #[] e1) (List.mem_append_right _ (List.mem_append_right _ (.tail _ (.head _))))).1
    have s1 := Heap.SameBut.update s''.heap kS (Obj.mapSeq (·.push (.int k t2)))
    obtain ⟨c2, hc2⟩ : ∃ c2, (s''.heap.update kS (Obj.mapSeq (·.push (.int k t2)))).get? kS = some (seqObj "list" (kA.push (.int k t2)) c2) := ⟨_, get?_update_seq nk2 (·.push (.int k t2))⟩
    have ek : kz.take (j + 1) = kz.take j ++ [k] := by rw [List.take_add_one, hkj]; simp
    have ea : (kA.push (Value.int k t2)).toList = kA.toList ++ [Value.int k t2] := by simp
    refine wpAny_bind (listUpdate_at nk2 rfl ?_ (by rw [sizeLine_eq]; omega) (Nat.le_trans (Nat.le_of_eq (Array.size_push ..)) (by rw [sizeLine_eq]; omega)))
    exact wpAny_pure ⟨rfl, kA.push (.int k t2), c2, I2.unpinned.own1 fk s1, hc2, (s1.2 a hka.symm).trans na2, by rw [ea, ek]; exact ksk_snoc hk⟩
  case done =>
    rintro s' ⟨kA, e, I', nk', na', hk⟩
    have hk' : IntsAre kA.toList kz := by
      have e3 : kz.take (0 + vs.length) = kz := List.take_of_length_le (by omega)
      rw [e3] at hk
      exact hk
    try dsimp only
    refine wpAny_bind (listItems_at nk' rfl ?_)
    exact skey_end I' fk fa hka nk' na' hk' hlen h64 h
theorem skey_sort {f : Value} {n : Nat} (I : Inv X pins σ H s) (fa : FpOk X pins H a) (ho : s.heap.get? a = some (seqObj "list" vs.toArray n))
    (hlen : kz.length = vs.length) (h64 : vs.length < 64)
    (turn : ∀ (i : Nat) (v : Value) (k : Int), vs[i]? = some v → kz[i]? = some k → KeyTurn X pins σ H A f v k)
    (h : ∀ s' out c, Inv X pins σ H s' → s'.heap.get? a = some (seqObj "list" out c) → KskOut b kz vs out.toList → P (.done (.ret .none)) s') :
    wpAny (model X.prog X.w) A (ksk_tree a f b) P E s := by
  have ha : a < s.heap.objs.size := Heap.lt_size ho
  have s1 := Heap.SameBut.update s.heap a (Obj.mapSeq fun _ => (#[] : Array Value))
  obtain ⟨e1, ho1⟩ : ∃ e1, (s.heap.update a (Obj.mapSeq fun _ => (#[] : Array Value))).get? a = some (seqObj "list" #[] e1) := ⟨_, get?_update_seq ho fun _ => #[]⟩
  have I1 := I.own1 fa s1
  have hkS : ((s.heap.update a (Obj.mapSeq fun _ => (#[] : Array Value))).push (seqObj "tuple" vs.toArray 0)).objs.size = s.heap.objs.size + 1 := by rw [size_push', Heap.size_update]
  have I3 : Inv X pins σ H { s with heap := ((s.heap.update a (Obj.mapSeq fun _ => (#[] : Array Value))).push (seqObj "tuple" vs.toArray 0)).push (seqObj "list" #[] 0) } :=
    I1.kept (t' := s.toks) fun c o q => Heap.get?_push_of_some _ (Heap.get?_push_of_some _ q)
  have fk : FpOk X pins H ((s.heap.update a (Obj.mapSeq fun _ => (#[] : Array Value))).push (seqObj "tuple" vs.toArray 0)).objs.size := by
    rw [hkS]
    exact I.fpOk (Nat.le_succ _) (I.hok.fresh (Nat.le_succ _))
  unfold ksk_tree
  refine wpAny_bind (listItems_at ho rfl ?_)
  refine wpAny_bind (listUpdate_at ho rfl ?_ (by rw [List.size_toArray, sizeLine_eq]; omega) (Nat.zero_le _))
  refine wpAny_bind (seqEpoch_at ho1 rfl ?_)
  refine wpAny_bind (wpAny_newTuple ?_ (by show vs.length ≤ _; rw [sizeLine_eq]; omega))
  refine wpAny_bind (wpAny_newList ?_ (Nat.zero_le _))
  refine wpAny_holding ?_
  exact skey_rest (s := { s with heap := ((s.heap.update a (Obj.mapSeq fun _ => (#[] : Array Value))).push (seqObj "tuple" vs.toArray 0)).push (seqObj "list" #[] 0) }) (kS := ((s.heap.update a (Obj.mapSeq fun _ => (#[] : Array Value))).push (seqObj "tuple" vs.toArray 0)).objs.size)
    I3 fk fa (by rw [hkS]; exact Nat.ne_of_gt (Nat.lt_succ_of_lt ha)) (Heap.get?_push_size _ rfl) (Heap.get?_push_of_some _ (Heap.get?_push_of_some _ ho1)) hlen h64 turn h
end
section
variable {X : Cx} {pins : List (Addr × Obj)} {σ : St} {H : Hp} {s : Shared} {E : Value → Shared → Prop}
theorem sorted_key {l f : Addr} {ns : List Int} {g : Int → Int} {Q : Value → Shared → Prop} (I : Inv X pins σ H s) (hl : SqL X.K H l (ns.map V.int)) (h64 : ns.length < 64)
    (turn : ∀ (n : Int) (t : Tok), n ∈ ns → KeyTurn X pins σ H X.A.in1.in1 (.ref f) (.int n t) (g n))
    (done : ∀ (D : Addr) (ns' : List Int) (s' : Shared), H D = none → ns'.Perm ns → ns'.Pairwise (fun x y => g x ≤ g y) → Inv X pins σ (upd H D (.lst (ns'.map V.int))) s' → Q (.ref D) s') :
    wpAny (model X.prog X.w) X.A (call (.builtin "sorted") [.ref l] [(Str.ofString "key", .ref f)]) Q E s := by
  obtain ⟨vs, rvs, pl, _⟩ := I.list hl
  have hi : IntsAre vs ns := intsAre_of rvs
  have hlen := hi.length
  have hlz : (ns.map g).length = vs.length := by rw [List.length_map, hlen]
  refine call_function_entry_kw kind_sorted plain_sorted entry_sorted (ksk_s1 _ _) ?_
  unfold Builtin.«sorted»
  refine wpAny_bind (m := checkCount "sorted" 1 1 _) (wpAny_pure ?_)
  refine wpAny_bind (collect_list pl.isList ?_ (by rw [sizeLine_eq]; omega))
  refine wpAny_bind (wpAny_newList ?_ (by rw [sizeLine_eq]; omega))
  have hsz : ((s.heap.push (seqObj "list" #[] 0)).update s.heap.objs.size (Obj.mapSeq (· ++ vs.toArray))).objs.size = s.heap.objs.size + 1 := by
    rw [Heap.size_update, size_push']
  have hoL : (((s.heap.push (seqObj "list" #[] 0)).update s.heap.objs.size (Obj.mapSeq (· ++ vs.toArray))).push (seqObj "list" vs.toArray 0)).get? (s.heap.objs.size + 1) = some (seqObj "list" vs.toArray 0) := by
    rw [← hsz]; exact Heap.get?_push_size _ rfl
  have keep : ∀ b o, s.heap.get? b = some o → (((s.heap.push (seqObj "list" #[] 0)).update s.heap.objs.size (Obj.mapSeq (· ++ vs.toArray))).push (seqObj "list" vs.toArray 0)).get? b = some o := fun b o q => by
    have hlt : b < s.heap.objs.size := Heap.lt_size q
    rw [Heap.get?_push_ne _ _ _ (by rw [hsz]; exact Nat.ne_of_lt (Nat.lt_succ_of_lt hlt)), Heap.get?_update_ne _ _ _ _ (Nat.ne_of_lt hlt), Heap.get?_push_ne _ _ _ (Nat.ne_of_lt hlt)]
    exact q
  have I1 : Inv X pins σ H { s with heap := ((s.heap.push (seqObj "list" #[] 0)).update s.heap.objs.size (Obj.mapSeq (· ++ vs.toArray))).push (seqObj "list" vs.toArray 0) } := I.kept (t' := s.toks) keep
  have hD : H (s.heap.objs.size + 1) = none := I.hok.fresh (Nat.le_succ _)
  have fa : FpOk X pins H (s.heap.objs.size + 1) := I.fpOk (Nat.le_succ _) hD
  show wpAny _ _ _ _ _ { s with heap := ((s.heap.push (seqObj "list" #[] 0)).update s.heap.objs.size (Obj.mapSeq (· ++ vs.toArray))).push (seqObj "list" vs.toArray 0) }
  rw [hsz]
  refine wpAny_bind (wpAny_holding (wpAny_call_entry_kw slot_list_sort ⟨_, hoL, rfl⟩ entry_list_sort ?body (ksk_l1 _ _)))
  case body =>
    show wpAny (model X.prog X.w) X.A.in1.in1 (Builtin.«list.sort» ⟨[.ref (s.heap.objs.size + 1)], [(Str.ofString "key", .ref f)]⟩) _ _ _
    rw [ksk_t1]
    refine skey_sort (s := { s with heap := ((s.heap.push (seqObj "list" #[] 0)).update s.heap.objs.size (Obj.mapSeq (· ++ vs.toArray))).push (seqObj "list" vs.toArray 0) }) (kz := ns.map g) I1 fa hoL hlz (by omega) (fun i v k hv hk => ?_) fun s' out c I' ho' ko => ⟨_, rfl, ?_⟩
    · rw [List.getElem?_map] at hk
      cases q : ns[i]? with
      | none => rw [q] at hk; simp at hk
      | some n =>
        rw [q] at hk
        have hk' : some (g n) = some k := hk
        cases hk'
        obtain ⟨t, ht'⟩ := hi.get i n q
        rw [ht'] at hv
        cases hv
        exact turn n t (List.mem_of_getElem? q)
    · obtain ⟨ps, hp, ho, hs⟩ := ko
      have hrel : ∀ p, p ∈ (ns.map g).zip vs → p.1 = g (numOf p.2) ∧ p.2 ∈ vs := by
        rw [← hi.nums, List.map_map, List.zip_map_left]
        intro p hp
        obtain ⟨⟨u, v⟩, hq, rfl⟩ := List.mem_map.mp hp
        have h1 : u = v ∧ u ∈ vs := mem_zip_self hq
        refine ⟨?_, ?_⟩
        · show g (numOf u) = g (numOf v)
          rw [h1.1]
        · show v ∈ vs
          rw [← h1.1]
          exact h1.2
      have hI : IntsAre (ps.map Prod.snd) ((ps.map Prod.snd).map numOf) := intsAre_map _ fun v hv => by
        obtain ⟨p, hp', rfl⟩ := List.mem_map.mp hv
        exact hi.all _ (hrel p (hp.mem_iff.mp hp')).2
      have hP : ((ps.map Prod.snd).map numOf).Perm ns := by
        have h1 := (hp.map Prod.snd).map numOf
        rw [List.map_snd_zip (by rw [List.length_map]; omega), hi.nums] at h1
        exact h1
      have hO : ((ps.map Prod.snd).map numOf).Pairwise (fun x y => g x ≤ g y) := by
        rw [List.pairwise_map, List.pairwise_map]
        refine hs.imp_of_mem fun {p q} hp' hq' hr => ?_
        have hr' : p.1 ≤ q.1 := hr
        rw [(hrel p (hp.mem_iff.mp hp')).1, (hrel q (hp.mem_iff.mp hq')).1] at hr'
        exact hr'
      rw [← ho] at hI hP hO
      have hl2 : (out.toList.map numOf).length ≤ sizeLine := by
        rw [hP.length_eq, sizeLine_eq]; omega
      refine wpAny_pure ⟨_, rfl, done _ _ s' hD hP hO (I'.track fa (Nat.le_trans I.sz (Nat.le_succ _)) ?_)⟩
      refine ⟨by rw [List.length_map]; exact hl2, out.toList, c, vals_ints hI, ?_⟩
      rw [Array.toArray_toList]
      exact ho'
end
end L2
set_option Elab.async false
set_option linter.all false
set_option maxRecDepth 100000
set_option maxHeartbeats 4000000
namespace L2
open PySem PySem.Spec PyProof.Rows
theorem closAt_of {X : Cx} {scope : Scope} {cl : List (Str × Addr)} {fr : List Str} {bs : List (Option Nat)} {pins : List (Addr × Obj)} {σ : St} {H : Hp} {s : Shared} {fv : List V} (B : Blk X scope cl fr bs) (I : Inv X pins σ H s) (hfv : bst bs σ = fv.map some) : ClosAt cl H s.heap fr fv := by
  refine ⟨?_, fun i y v e1 e2 => ?_⟩
  · have h := congrArg List.length hfv
    unfold bst at h
    rw [List.length_map, List.length_map, B.bs.len] at h
    exact h
  · have e3 : (bst bs σ)[i]? = some (some v) := by rw [hfv, List.getElem?_map, e2]; rfl
    unfold bst at e3
    rw [List.getElem?_map] at e3
    cases q : bs[i]? with
    | none => rw [q] at e3; cases e3
    | some o =>
      rw [q] at e3
      cases o with
      | none => cases e3
      | some j =>
        obtain ⟨x, y1, y2, y3, y4⟩ := B.bs.get q
        rw [e1] at y1
        cases y1
        have e4 : σ[j]? = some (some v) := by
          have z : (σ[j]?).join = some v := Option.some.inj e3
          cases w : σ[j]? with
          | none => rw [w] at z; cases z
          | some o => rw [w] at z; rw [show o = some v from z]
        obtain ⟨mx, hmx, lx⟩ := I.loc
        obtain ⟨u, r, l⟩ := lx j y v y2 e4 (.inr (.inl y3))
        rcases l with ⟨l1, _⟩ | ⟨_, c, l2, l3⟩
        · have l1' : X.env.scope.names.lookup y = some .local := l1
          rw [y3] at l1'
          cases l1'
        · obtain ⟨c', h'⟩ := Option.isSome_iff_exists.mp (B.cl2 (y, .free) (PySem.mem_of_lookup y4) rfl)
          have h2 := B.c1 h'
          rw [l2] at h2
          cases h2
          exact ⟨u, c, r, h', l3⟩
def tSortLam (K : PySem.W.Frag) (P : Addr) (lpos : Pos) (qual : Str) (bs : List (Option Nat)) (ta te : TE) : TE := fun σ H Q => ta σ H fun x H1 => ∃ (l : Addr) (ns : List Int) (g : Int → Int) (fv : List V), x = .ref l ∧ SqL K H1 l (ns.map V.int) ∧ ns.length < 64 ∧ TabI P lpos qual H1 ∧ bst bs σ = fv.map some ∧
  ∀ H2, Gr P lpos qual H1 H2 → (∀ n ∈ ns, te (some (.int n) :: fv.map some) H2 fun v H3 => v = .int (g n) ∧ H3 = H2) ∧ ∀ D ns', H2 D = none → List.Perm ns' ns → ns'.Pairwise (fun x y => g x ≤ g y) → Q (.ref D) (upd H2 D (.lst (ns'.map V.int)))
theorem Gr.sqL {K : PySem.W.Frag} {P : Addr} {pos : Pos} {qual : Str} {H H' : Hp} {l : Addr} {xs : List V} (g : Gr P pos qual H H') (t : TabI P pos qual H) (h : SqL K H l xs) : SqL K H' l xs := by
  have np : ∀ o, H l = some o → (∀ ps, o ≠ .tbl ps) → l ≠ P := fun o e n z => by
    subst z
    rcases t with t | ⟨c', t, _⟩
    · rw [e] at t; exact n _ (Option.some.inj t)
    · rw [e] at t; exact n _ (Option.some.inj t)
  rcases h with (h | ⟨o, h⟩) | h
  · exact .inl (.inl (g.keep _ _ h (np _ h fun ps z => nomatch z)))
  · exact .inl (.inr ⟨o, g.keep _ _ h (np _ h fun ps z => nomatch z)⟩)
  · exact .inr h
def only1 (R : V → Hp → Prop) : List V → Hp → Prop
  | [x], H => R x H
  | _, _ => False
theorem only1_of {R : V → Hp → Prop} : ∀ {vs : List V} {H : Hp}, only1 R vs H → ∃ x, vs = [x] ∧ R x H
  | [x], _, h => ⟨x, rfl, h⟩
  | [], _, h => h.elim
  | _ :: _ :: _, _, h => h.elim
theorem pe_sortLam {X : Cx} {k : Nat} {scope : Scope} {cl : List (Str × Addr)} {fr : List Str} {bs : List (Option Nat)} {x : Str} {params : Arguments} {body arg : Expr} {c P : Addr} {qual : Str} {lpos kpos pos p : Pos} {ta te : TE}
    (B : Blk X scope cl fr bs) (L : Lam x fr params scope) (hbm : BM X.mg X.base) (hcode : X.env.code = .ref c) (hC : PySem.W.codeHdIn X.K c P = true) (hq0 : X.env.qual ++ "<lambda>" = qual) (hdef : defaultsOf params X.env = ([], []))
    (hr : Room (k + 3) X.A) (hg : Gl X "sorted") (hm : X.mg "sorted" = none) (ha : PE X arg ta)
    (hbody : ∀ (f c' : Addr) (A : Around) (s : Shared) (H : Hp), Room k (A.deeper (PySem.W.envX qual scope s.heap.objs.size f (.ref c') cl)) → PE (cxLam X.prog X.w X.K X.mg X.base (x :: fr) qual scope cl f c' A X.stack s H) body te)
    (hs : starEach [arg] X.env = [(false, eval arg X.env)] := by rfl) :
    PE X (.Call (.Name "sorted" p) [arg] [⟨some "key", .Lambda params body scope lpos, kpos⟩] pos) (tSortLam X.K P lpos qual bs ta te) := by
  intro pins s σ H Q I h
  refine wpAny_Call_Name_kw (ld_blt I hg hm boot_sorted ?_)
  refine callWith_kw (id := "sorted") (thn ((pa_cons ha pa_nil hs : PA X [arg] (tCons ta tNil)) pos pins s σ H (only1 fun x H1 => ∃ (l : Addr) (ns : List Int) (g : Int → Int) (fv : List V), x = .ref l ∧ SqL X.K H1 l (ns.map V.int) ∧ ns.length < 64 ∧ TabI P lpos qual H1 ∧ bst bs σ = fv.map some ∧
    ∀ H2, Gr P lpos qual H1 H2 → (∀ n ∈ ns, te (some (.int n) :: fv.map some) H2 fun v H3 => v = .int (g n) ∧ H3 = H2) ∧ ∀ D ns', H2 D = none → List.Perm ns' ns → ns'.Pairwise (fun x y => g x ≤ g y) → Q (.ref D) (upd H2 D (.lst (ns'.map V.int)))) I h) fun us s1 ⟨vs, H1, I1, r1, q1⟩ => ?_) (by rw [hs]; rfl) (by rw [hs]; rfl)
  obtain ⟨x1, rfl, q1⟩ := only1_of q1
  obtain ⟨u1, rfl, ru⟩ := vals1 r1
  obtain ⟨l, ns, g, fv, rfl, hl, h64, htab, hfv, q⟩ := q1
  cases ru
  show wpAny _ _ (evalAll [(do let v ← eval (.Lambda params body scope lpos) X.env; standAt pos; pure v)]) _ _ s1
  refine wpAny_evalAll_cons (wpAny_bind (lam_make I1 hbm B.clos hcode hC hq0 hdef htab fun f c' pm ctv s2 H2 I2 gr hf hfs hfn hc => wpAny_bind (wpAny_standAt (wpAny_pure (wpAny_evalAll_nil ?_)))))
  show wpAny _ _ (call (.builtin "sorted") [.ref l] [(Str.ofString "key", .ref f)]) _ _ s2
  obtain ⟨qk, qd⟩ := q H2 gr
  have ff : FpOk X pins H2 f := I1.fpOk hfs hfn
  have I2' : Inv X (pins ++ [(f, PySem.W.kla_obj "<lambda>" qual params body scope cl pm c' ctv)]) σ H2 s2 := I2.pins_of fun p hp => by
    rcases List.mem_append.mp hp with z | z
    · exact I2.pin p (List.mem_append_right _ z)
    · rw [List.mem_singleton.mp z]
      exact ff.pin1 I2 hf fun v z => nomatch z
  refine sorted_key (g := g) I2' (gr.sqL htab hl) h64 (fun n t hn s' pl I' => ?_) fun D ns' s' hD hP hO I' => ⟨.ref D, _, I'.unpinned, rfl, qd D ns' hD hP hO⟩
  have pf := I'.pin (f, PySem.W.kla_obj "<lambda>" qual params body scope cl pm c' ctv) (List.mem_append_right _ (List.mem_append_left _ (List.mem_append_right _ (.head _))))
  have hcd : s'.heap.CodeRec (.ref c') qual := (show ObjOk X.prog X.w H2 s'.heap c' (TabE qual c') from I'.hok c' _ hc).1
  have hr1 : Room (k + 1) X.A.in1.in1 := (hr.in1).in1
  refine wpAny_call (codeAny_mono (lam_run (v := .int n) L hr1 (I'.env0.in1).in1 pf.1 hcd (fun y z c h1 h2 => I'.ok.inj y z c (B.c1 h1) (B.c1 h2)) B.cl2 (fun y c h => ⟨I'.cell y c (B.c1 h), I'.freeC y c (B.c1 h)⟩) (closAt_of B I' hfv) ⟨t, rfl⟩ (hbody f c' _ s' H2 (hr1.deeper _)) (qk n hn)) fun r s'' hq => ?_)
  cases r with
  | error e => exact hq.elim
  | ok fl =>
    cases fl with
    | next => exact False.elim hq
    | brk => exact False.elim hq
    | cont => exact False.elim hq
    | ret u =>
      obtain ⟨v', H', J, r', rfl, rfl⟩ := I'.after hq
      exact ⟨r', J⟩
end L2
set_option Elab.async false
set_option linter.all false
set_option maxRecDepth 100000
set_option maxHeartbeats 4000000
namespace L2
open PySem PySem.Spec PyProof.Rows
section
variable {X : Cx}
theorem call_isinst : CallR X (.builtin "isinstance") (fun xs H Q => ∃ x n t b, xs = [x, .ty n] ∧ TyOf X.K H x t ∧ PySem.W.kitOne X.K t (.type n) = some b ∧ Q (.bl b) H) := by
  intro pins s σ H xs us Q I r h
  obtain ⟨x, n, t, b, rfl, ty, e, q⟩ := h
  obtain ⟨u, w', rfl, rx, ry⟩ := vals2 r
  cases (show w' = Value.type n from ry)
  exact isinst_ok I rx ty e fun tk => ⟨.bl b, H, I.tok tk, rfl, q⟩
theorem Inv.big {pins : List (Addr × Obj)} {σ : St} {H : Hp} {s : Shared} (I : Inv X pins σ H s) : sysModules < s.heap.objs.size := by
  have h : mainGlobals < s.heap.objs.size := (I.mod.glob.keeps I.bk).lt
  exact Nat.lt_trans (by decide) h
theorem dk_empty {P : Program} {w : World} {H : Hp} (h : Heap) (hb : sysModules < h.objs.size) : ObjOk P w H (h.push { cls := .type "dict", data := .dict #[] }) h.objs.size (.dK []) :=
  ⟨Nat.zero_le _, beq_eq_false_iff_ne.mpr (Ne.symm (Nat.ne_of_lt hb)), [], .nil, Heap.DictOf.new h⟩
def tDNewK : TE := fun _ H Q => ∀ p, H p = none → Q (.ref p) (upd H p (.dK []))
theorem pe_dnewK {pos : Pos} : PE X (.Dict [] [] pos) tDNewK := fun pins s σ H Q I h =>
  wpAny_Dict_empty ⟨.ref s.heap.objs.size, _, I.laid (a := s.heap.objs.size) (o := .dK []) (t' := s.toks) (fun _ _ q => Heap.get?_push_of_some _ q) (Nat.le_refl _) (dk_empty s.heap I.big), rfl, h _ (I.hok.fresh (Nat.le_refl _))⟩
theorem call_maxs (hc : X.calm = true) : CallR X (.builtin "max") (fun xs H Q => ∃ p, ∃ ns : List Int, xs = [.ref p] ∧ (SqL X.K H p (ns.map V.int) ∨ SqT X.K H p (ns.map V.int)) ∧ 0 < ns.length ∧ ∀ M, M ∈ ns → (∀ a ∈ ns, a ≤ M) → Q (.int M) H) := by
  intro pins s σ H xs us Q I r h
  obtain ⟨p, ns, rfl, hp, hne, q⟩ := h
  obtain ⟨u, rfl, rx⟩ := vals1 r
  cases (show u = Value.ref p from rx)
  have fin : ∀ (vs : List Value) (it : Obj), Vals (ns.map V.int) vs → (∀ i v, vs.toArray[i]? = some v → ∃ t, v = Value.int (ns.getD i 0) t) → ∀ v h' tk, vs.toArray[argBest (fun i j => decide (ns.getD i 0 > ns.getD j 0)) (vs.toArray.size - 1)]? = some v →
      (∀ b o, b ∉ [s.heap.objs.size] → (s.heap.push it).get? b = some o → h'.get? b = some o) → EP X pins σ Q v { s with heap := h', toks := tk } := by
    intro vs it rv hval v h' tk hP hk
    obtain ⟨t, rfl⟩ := hval _ _ hP
    have hlen : vs.length = ns.length := by have := rv.length; simpa using this.symm
    obtain ⟨h1, h2⟩ := argBest_gt (fun i => ns.getD i 0) (vs.toArray.size - 1)
    rw [List.size_toArray, hlen] at h1 h2
    rw [List.size_toArray, hlen]
    refine ⟨.int _, H, I.kept (t' := tk) fun b o e2 => hk b o (fun hm => ?_) (Heap.get?_push_of_some _ e2), ⟨t, rfl⟩, q _ ?_ fun a ha => ?_⟩
    · rw [List.mem_singleton.mp hm] at e2
      exact Nat.lt_irrefl _ (Heap.lt_size e2)
    · have hlt : argBest (fun i j => decide (ns.getD i 0 > ns.getD j 0)) (ns.length - 1) < ns.length := by omega
      rw [List.getD_eq_getElem?_getD, List.getElem?_eq_getElem hlt]
      exact List.getElem_mem hlt
    · obtain ⟨j, hj, rfl⟩ := List.getElem_of_mem ha
      have := h2 j (by omega)
      rw [List.getD_eq_getElem?_getD, List.getElem?_eq_getElem hj] at this
      exact this
  have hvals : ∀ vs : List Value, Vals (ns.map V.int) vs → ∀ i v, vs.toArray[i]? = some v → ∃ t, v = Value.int (ns.getD i 0) t := by
    intro vs rv i v e
    have e' : vs[i]? = some v := by simpa using e
    have hlen : vs.length = ns.length := by have := rv.length; simpa using this.symm
    have hi : i < ns.length := by rw [← hlen]; exact (List.getElem?_eq_some_iff.mp e').1
    obtain ⟨u, e2, r2⟩ := rv.get (i := i) (x := .int ns[i]) (by rw [List.getElem?_map, List.getElem?_eq_getElem hi]; rfl)
    rw [e'] at e2
    cases e2
    obtain ⟨t, rfl⟩ := r2
    exact ⟨t, by rw [List.getD_eq_getElem?_getD, List.getElem?_eq_getElem hi]; rfl⟩
  have pos : ∀ vs : List Value, Vals (ns.map V.int) vs → 0 < vs.toArray.size := fun vs rv => by
    have := rv.length
    rw [List.length_map] at this
    rw [List.size_toArray]; omega
  rcases hp with hp | hp
  · obtain ⟨vs, rv, pl, hz⟩ := I.list hp
    have hl := pl.isList
    have hlt : p < s.heap.objs.size := by obtain ⟨_, e, _⟩ := hl; exact Heap.lt_size e
    refine call_max_walk (wpAny_pyIter_list hl ?_)
    refine ⟨s.heap.objs.size, [s.heap.objs.size, p], [s.heap.objs.size], _, _, _, _, rfl, Walks.list (A := X.A.in1) (I.ok.hd hc) _ p (Nat.ne_of_lt hlt) vs.toArray, ⟨⟨_, Heap.get?_push_size _ rfl, rfl, rfl⟩, hl.push _⟩, fun b hb => ?_, pos vs rv, CmpOf.ints_gt (fun i => ns.getD i 0) (hvals vs rv), fun v h' tk hP hk => fin vs _ rv (hvals vs rv) v h' tk hP hk⟩
    show b < (s.heap.push _).objs.size
    rw [Heap.size_push]
    simp only [List.mem_cons, List.not_mem_nil, or_false] at hb
    rcases hb with rfl | rfl
    · exact Nat.lt_succ_self _
    · exact Nat.lt_succ_of_lt hlt
  · obtain ⟨vs, rv, pl, hz⟩ := I.tuple hp
    have hl : s.heap.IsTuple p vs.toArray := pl
    have hlt : p < s.heap.objs.size := by obtain ⟨_, e, _⟩ := hl; exact Heap.lt_size e
    refine call_max_walk (wpAny_pyIter_tuple hl ?_)
    refine ⟨s.heap.objs.size, [s.heap.objs.size, p], [s.heap.objs.size], _, _, _, _, rfl, Walks.tuple (A := X.A.in1) (I.ok.hd hc) _ p (Nat.ne_of_lt hlt) vs.toArray, ⟨⟨_, Heap.get?_push_size _ rfl, rfl, rfl⟩, hl.push _⟩, fun b hb => ?_, pos vs rv, CmpOf.ints_gt (fun i => ns.getD i 0) (hvals vs rv), fun v h' tk hP hk => fin vs _ rv (hvals vs rv) v h' tk hP hk⟩
    show b < (s.heap.push _).objs.size
    rw [Heap.size_push]
    simp only [List.mem_cons, List.not_mem_nil, or_false] at hb
    rcases hb with rfl | rfl
    · exact Nat.lt_succ_self _
    · exact Nat.lt_succ_of_lt hlt
end
end L2
set_option Elab.async false
set_option linter.all false
set_option maxRecDepth 100000
set_option maxHeartbeats 4000000
namespace L2
open PySem PySem.Spec PyProof.Rows
theorem same_add {H : Hp} {d : Addr} {o : HO} (h : H d = Option.none) : Same H (upd H d o) := fun b u e => by rw [upd_ne (ne_of_none e h)]; exact e
theorem le1000 {n : Nat} (h : Nat.ble n 1000 = true) : n ≤ sizeLine := by
  have := Nat.le_of_ble_eq_true h
  rw [sizeLine_eq]; omega
theorem leMil {n : Nat} (h : n ≤ 100000) : n ≤ sizeLine := by rw [sizeLine_eq]; omega
def plainE : Expr → Bool
  | .Starred _ _ => false
  | _ => true
theorem star_cons {e : Expr} {es : List Expr} {env : Env} (h : plainE e = true) : starEach (e :: es) env = (false, eval e env) :: starEach es env := by
  cases e <;> first | rfl | cases h
theorem star_any {env : Env} {pos : Pos} : ∀ {es : List Expr}, es.all plainE = true → (backTo pos (starEach es env)).any (·.1) = false
  | [], _ => rfl
  | e :: es, h => by
    have h1 : plainE e = true ∧ es.all plainE = true := by simpa [List.all_cons, Bool.and_eq_true] using h
    rw [star_cons h1.1]
    have ih := star_any (env := env) (pos := pos) h1.2
    unfold backTo at ih ⊢
    rw [List.map_cons, List.any_cons, ih]
    rfl
theorem pa_c {X : Cx} {e : Expr} {es : List Expr} {te : TE} {t : TA} (ha : PE X e te) (hr : PA X es t) (hs : plainE e = true := by rfl) : PA X (e :: es) (tCons te t) := pa_cons ha hr (star_cons hs)
structure FnE (P : Program) (w : World) (K : PySem.W.Frag) (mg : Str → Option Value) (base : Heap) (x : Str) (ps : List Str) (k : Nat) (sp : Sp) : Prop where
  ex : ∃ f fd, FnOk P w K mg base CX0 k f fd ps sp ∧ mg x = some (.ref f) ∧ PySem.W.keepIn K (.ref f) = true ∧ Binds K fd ps []
theorem FnE.mono {P : Program} {w : World} {K : PySem.W.Frag} {mg : Str → Option Value} {base : Heap} {x : Str} {ps : List Str} {j k : Nat} {sp : Sp} (F : FnE P w K mg base x ps j sp) (h : j ≤ k) : FnE P w K mg base x ps k sp :=
  let ⟨f, fd, a, b⟩ := F.ex; ⟨f, fd, a.mono h, b⟩
theorem pe_fn {X : Cx} {x : Str} {ps : List Str} {k : Nat} {sp : Sp} {e : Expr} {es : List Expr} {t : TA} {p pos : Pos} (F : FnE X.prog X.w X.K X.mg X.base x ps k sp) (hr : Room k X.A) (ha : PA X (e :: es) t) (hg : Gl X x := by rfl)
    (hdb : (x == ("__debug__" : Str)) = false := by decide) (he : starEach (e :: es) X.env = (false, eval e X.env) :: starEach es X.env := by rfl) (hpl : (backTo pos (starEach es X.env)).any (·.1) = false := by rfl) :
    PE X (.Call (.Name x p) (e :: es) [] pos) (tCall sp [] E0 t) :=
  let ⟨_, _, a, b, c, d⟩ := F.ex; pe_call a hr hg b c d .nil pass0 ha hdb he hpl
theorem pe_fc {X : Cx} {x : Str} {ps : List Str} {k : Nat} {sp : Sp} {e : Expr} {es : List Expr} {t : TA} {p pos : Pos} (F : FnE X.prog X.w X.K X.mg X.base x ps k sp) (hr : Room k X.A) (ha : PA X (e :: es) t) (hg : Gl X x := by rfl)
    (hdb : (x == ("__debug__" : Str)) = false := by decide) (he : plainE e = true := by rfl) (hpl : es.all plainE = true := by rfl) : PE X (.Call (.Name x p) (e :: es) [] pos) (tCall sp [] E0 t) :=
  pe_fn F hr ha hg hdb (star_cons he) (star_any hpl)
def tTupS (t : TA) : TE := fun σ H Q => t σ H fun xs H1 => Nat.ble xs.length 1000 = true ∧ ∀ p H', Same H1 H' → H' p = some (.tup xs) → Q (.ref p) H'
section
variable {X : Cx} {e : Expr} {es : List Expr} {te : TE} {t : TA} {pos : Pos}
theorem CallR.weak {f : Value} {r r' : List V → Hp → VK → Prop} (h : CallR X f r) (k : ∀ xs H Q, r' xs H Q → r xs H Q) : CallR X f r' := fun pins s σ H xs us Q I r q => h pins s σ H xs us Q I r (k _ _ _ q)
theorem pe_tupS {x1} (h : PA X es t) : PE X (.Tuple es x1 pos) (tTupS t) := by
  intro pins s σ H Q I hq
  refine wpAny_Tuple_spliced (thn (h pos pins s σ H _ I hq) fun us s1 ⟨xs, H1, I1, r, z, q⟩ => ⟨by rw [← r.length]; exact le1000 z, ?_⟩)
  have hf : H1 s1.heap.objs.size = none := I1.hok.fresh (Nat.le_refl _)
  refine ⟨.ref s1.heap.objs.size, upd H1 s1.heap.objs.size (.tup xs), I1.laid (t' := s1.toks) (fun b u e => Heap.get?_push_of_some _ e) (Nat.le_refl _) ?_, rfl, q _ _ (same_add hf) upd_same⟩
  exact ⟨le1000 z, us, r, ⟨_, Heap.get?_push_size _ rfl, rfl, _, rfl⟩⟩
theorem call_tuple_ofS : CallR X (.type "tuple") (fun xs H Q => ∃ p ys, xs = [.ref p] ∧ (H p = some (.lst ys) ∨ H p = some (.tup ys)) ∧ ∀ l H', Same H H' → H' l = some (.tup ys) → Q (.ref l) H') :=
  call_tuple_of.weak fun xs H Q ⟨p, ys, e, h, q⟩ => ⟨p, ys, e, by
    rcases h with h | h
    · exact .inl ⟨SqL.of h, fun l hl => q l _ (same_add hl) upd_same⟩
    · exact .inr ⟨SqT.of h, q p H (Same.refl H) h⟩⟩
end
def MonoE (t : TE) : Prop := ∀ σ H (Q Q' : VK), (∀ v H', Q v H' → Q' v H') → t σ H Q → t σ H Q'
theorem mono_var (i : Nat) : MonoE (tVar i) := fun σ H Q Q' k ⟨v, e, q⟩ => ⟨v, e, k _ _ q⟩
theorem mono_c (v : V) : MonoE (tC v) := fun σ H Q Q' k q => k _ _ q
theorem mono_ixT {K : PySem.W.Frag} {ta tb : TE} (ha : MonoE ta) (hb : MonoE tb) : MonoE (tOp (rIxT K) ta tb) := fun σ H Q Q' k q => ha σ H _ _ (fun x H1 q => hb σ H1 _ _ (fun y H2 ⟨p, xs, i, v, e1, e2, h, a, q⟩ => ⟨p, xs, i, v, e1, e2, h, a, k _ _ q⟩) q) q
def tLCT (K : PySem.W.Frag) (bs : List (Option Nat)) (tl : TE) (g : TG) (tt : TT) (te : TE) : TE := fun σ H Q => tl σ H fun x H1 => ∃ a xs, x = .ref a ∧ SqT K H1 a xs ∧ xs.length ≤ 100000 ∧ ∃ Pv : Nat → List V → St → Hp → Prop, Pv 0 [] (bst bs σ) H1 ∧
  (∀ i ys σ H, i ≤ xs.length → Pv i ys σ H → SqT K H a xs ∧ ys.length ≤ i) ∧
  (∀ i x ys σ H, xs[i]? = some x → Pv i ys σ H → g x σ H fun σ3 H3 => tt σ3 H3 fun b H4 => if b = true then te σ3 H4 fun v H5 => Pv (i + 1) (ys ++ [v]) σ3 H5 else Pv (i + 1) ys σ3 H4) ∧
  ∀ ys σ H, Pv xs.length ys σ H → ∀ p H', Same H H' → H' p = some (.lst ys) → Q (.ref p) H'
theorem pe_lcT {X : Cx} {scope : Scope} {cl : List (Str × Addr)} {N : List Str} {bs : List (Option Nat)} {tg iter elt : Expr} {ifs : List Expr} {pos : Pos} {tl : TE} {g : TG} {tt : TT} {te : TE} (B : Blk X scope cl N bs) (hc : X.calm = true)
    (hl : PE X iter tl) (hm : MonoE tl) (hg : ∀ C fp s H, PG (cxBlk X scope cl C N fp s H) tg g) (ht : ∀ C fp s H, PTs (cxBlk X scope cl C N fp s H) ifs tt) (he : ∀ C fp s H, PE (cxBlk X scope cl C N fp s H) elt te)
    (hs : ∀ x, foldedSetIterable iter X.env x = pure x := by intro _; rfl) : PE X (.ListComp elt [⟨tg, iter, ifs, 0⟩] scope pos) (tLCT X.K bs tl g tt te) := by
  intro pins s σ H Q I h
  refine @pe_lc X scope cl N bs tg iter elt ifs pos (iTup X.K tl) g tt te B hc (@pi_tup X _ _ _ hl) hg ht he hs pins s σ H Q I ?_
  refine hm σ H _ _ (fun x H1 h => ?_) h
  obtain ⟨a, xs, e, hS, hz, Pv, p0, pl, ps, pd⟩ := h
  exact ⟨a, e, ⟨xs, hS⟩, lc_tup (Q := Q) Pv (leMil hz) p0 pl ps fun ys σ H hp p hpn => pd ys σ H hp p _ (same_add hpn) upd_same⟩
end L2
set_option Elab.async false
set_option linter.all false
set_option maxRecDepth 100000
set_option maxHeartbeats 4000000
namespace L2
open PySem PySem.Spec PyProof.Rows
def MonoA (t : TA) : Prop := ∀ σ H (Q Q' : List V → Hp → Prop), (∀ v H', Q v H' → Q' v H') → t σ H Q → t σ H Q'
theorem monoA_nil : MonoA tNil := fun σ H Q Q' k q => k _ _ q
theorem monoA_cons {te : TE} {tr : TA} (ha : MonoE te) (hr : MonoA tr) : MonoA (tCons te tr) := fun σ H Q Q' k q => ha σ H _ _ (fun x H1 q => hr σ H1 _ _ (fun xs H2 q => k _ _ q) q) q
def rLen (K : PySem.W.Frag) : List V → Hp → VK → Prop := fun xs H Q => ∃ p ys, xs = [.ref p] ∧ (SqL K H p ys ∨ SqT K H p ys) ∧ Q (.int ys.length) H
theorem call_lenK {X : Cx} {K : PySem.W.Frag} (hK : X.K = K) : CallR X (.builtin "len") (rLen K) := by
  subst hK
  exact call_len_seq
theorem mono_len {K : PySem.W.Frag} {t : TA} (h : MonoA t) : MonoE (tCB (rLen K) t) := fun σ H Q Q' k q => h σ H _ _ (fun vs H1 ⟨p, ys, e, s, q⟩ => ⟨p, ys, e, s, k _ _ q⟩) q
theorem lc_range {lo : Int} {n : Nat} {g : TG} {tt : TT} {te : TE} {σ : St} {H : Hp} {Q : VK} (Pv : Nat → List V → St → Hp → Prop) (hz : n ≤ sizeLine) (h0 : Pv 0 [] σ H) (hl : ∀ i ys σ H, i ≤ n → Pv i ys σ H → ys.length ≤ i)
    (hs : ∀ i ys σ H, i < n → Pv i ys σ H → g (.int (lo + i)) σ H fun σ3 H3 => tt σ3 H3 fun b H4 => if b = true then te σ3 H4 fun v H5 => Pv (i + 1) (ys ++ [v]) σ3 H5 else Pv (i + 1) ys σ3 H4)
    (hd : ∀ ys σ H, Pv n ys σ H → ∀ p, H p = none → Q (.ref p) (upd H p (.lst ys))) :
    ∃ W : Nat → Nat → List V → St → Hp → Prop, (∃ m, W 0 m [] σ H) ∧ ∀ i m ys σ' H', W i m ys σ' H' →
      ((Itr lo n).stop i H' ∧ ys.length ≤ sizeLine ∧ ∀ p, H' p = none → Q (.ref p) (upd H' p (.lst ys))) ∨
      ((Itr lo n).go i H' ∧ ys.length < sizeLine ∧ ∃ N : List V → St → Hp → Prop, (∀ zs σ2 H2, N zs σ2 H2 → ∃ m', m' < m ∧ W (i + 1) m' zs σ2 H2) ∧ ∀ x H2, (Itr lo n).yld i H' x H2 → g x σ' H2 fun σ3 H3 => tt σ3 H3 fun b H4 =>
        if b = true then te σ3 H4 fun v H5 => N (ys ++ [v]) σ3 H5 else N ys σ3 H4) := by
  refine ⟨fun i m ys σ H => m = n - i ∧ i ≤ n ∧ Pv i ys σ H, ⟨n, by simp, Nat.zero_le _, h0⟩, ?_⟩
  rintro i m ys σ H ⟨rfl, hi, p⟩
  have ql := hl i ys σ H hi p
  by_cases hlt : i < n
  · refine .inr ⟨hlt, by omega, Pv (i + 1), fun zs σ' H' p' => ⟨n - (i + 1), by omega, rfl, hlt, p'⟩, fun x H' y => ?_⟩
    obtain ⟨e, y⟩ := y
    subst e
    subst y
    exact hs i ys σ _ hlt p
  · have e : i = n := by omega
    subst e
    exact .inl ⟨Nat.le_refl _, by omega, hd ys σ H p⟩
def tLCR (bs : List (Option Nat)) (ta : TA) (g : TG) (tt : TT) (te : TE) : TE := fun σ H Q => ta σ H fun vs H1 => ∃ n : Nat, vs = [.int (n : Int)] ∧ n ≤ 100000 ∧ ∃ Pv : Nat → List V → St → Hp → Prop, Pv 0 [] (bst bs σ) H1 ∧
  (∀ i ys σ H, i ≤ n → Pv i ys σ H → ys.length ≤ i) ∧
  (∀ i ys σ H, i < n → Pv i ys σ H → g (.int (0 + i)) σ H fun σ3 H3 => tt σ3 H3 fun b H4 => if b = true then te σ3 H4 fun v H5 => Pv (i + 1) (ys ++ [v]) σ3 H5 else Pv (i + 1) ys σ3 H4) ∧
  ∀ ys σ H, Pv n ys σ H → ∀ p H', Same H H' → H' p = some (.lst ys) → Q (.ref p) H'
theorem pe_lcR {X : Cx} {scope : Scope} {cl : List (Str × Addr)} {N : List Str} {bs : List (Option Nat)} {tg a elt : Expr} {ifs : List Expr} {p pos' pos : Pos} {ta : TA} {g : TG} {tt : TT} {te : TE} (B : Blk X scope cl N bs) (hc : X.calm = true)
    (hgl : Gl X "range") (hmr : X.mg "range" = none) (ha : PA X [a] ta) (hm : MonoA ta) (hpl : plainE a = true) (hg : ∀ C fp s H, PG (cxBlk X scope cl C N fp s H) tg g) (ht : ∀ C fp s H, PTs (cxBlk X scope cl C N fp s H) ifs tt) (he : ∀ C fp s H, PE (cxBlk X scope cl C N fp s H) elt te)
    (hs : ∀ x, foldedSetIterable (.Call (.Name "range" p) [a] [] pos') X.env x = pure x := by intro _; rfl) : PE X (.ListComp elt [⟨tg, .Call (.Name "range" p) [a] [] pos', ifs, 0⟩] scope pos) (tLCR bs ta g tt te) := by
  intro pins s σ H Q I h
  refine @pe_lc X scope cl N bs tg _ elt ifs pos (iRng1 ta) g tt te B hc (@pi_range1 X tg a ta p pos' hgl hmr ha (star_cons hpl)) hg ht he hs pins s σ H Q I ?_
  refine hm σ H _ _ (fun vs H1 h => ?_) h
  obtain ⟨n, e, hz, Pv, p0, pl, ps, pd⟩ := h
  refine ⟨(n : Int), e, by omega, by omega, ?_⟩
  rw [Int.toNat_natCast]
  exact lc_range (Q := Q) Pv (leMil hz) p0 pl ps fun ys σ H hp p hpn => pd ys σ H hp p _ (same_add hpn) upd_same
theorem lc_list {K : PySem.W.Frag} {a : Addr} {xs : List V} {g : TG} {tt : TT} {te : TE} {σ : St} {H : Hp} {Q : VK} (Pv : Nat → List V → St → Hp → Prop) (hz : xs.length ≤ sizeLine) (h0 : Pv 0 [] σ H) (hl : ∀ i ys σ H, i ≤ xs.length → Pv i ys σ H → SqL K H a xs ∧ ys.length ≤ i)
    (hs : ∀ i x ys σ H, xs[i]? = some x → Pv i ys σ H → g x σ H fun σ3 H3 => tt σ3 H3 fun b H4 => if b = true then te σ3 H4 fun v H5 => Pv (i + 1) (ys ++ [v]) σ3 H5 else Pv (i + 1) ys σ3 H4)
    (hd : ∀ ys σ H, Pv xs.length ys σ H → ∀ p, H p = none → Q (.ref p) (upd H p (.lst ys))) :
    ∃ W : Nat → Nat → List V → St → Hp → Prop, (∃ m, W 0 m [] σ H) ∧ ∀ i m ys σ' H', W i m ys σ' H' →
      ((Itl K a).stop i H' ∧ ys.length ≤ sizeLine ∧ ∀ p, H' p = none → Q (.ref p) (upd H' p (.lst ys))) ∨
      ((Itl K a).go i H' ∧ ys.length < sizeLine ∧ ∃ N : List V → St → Hp → Prop, (∀ zs σ2 H2, N zs σ2 H2 → ∃ m', m' < m ∧ W (i + 1) m' zs σ2 H2) ∧ ∀ x H2, (Itl K a).yld i H' x H2 → g x σ' H2 fun σ3 H3 => tt σ3 H3 fun b H4 =>
        if b = true then te σ3 H4 fun v H5 => N (ys ++ [v]) σ3 H5 else N ys σ3 H4) := by
  refine ⟨fun i m ys σ H => m = xs.length - i ∧ i ≤ xs.length ∧ Pv i ys σ H, ⟨xs.length, by simp, Nat.zero_le _, h0⟩, ?_⟩
  rintro i m ys σ H ⟨rfl, hi, p⟩
  obtain ⟨q, ql⟩ := hl i ys σ H hi p
  by_cases hlt : i < xs.length
  · refine .inr ⟨⟨xs, xs[i], q, by simp [hlt]⟩, by omega, Pv (i + 1), fun zs σ' H' p' => ⟨xs.length - (i + 1), by omega, rfl, hlt, p'⟩, fun x H' y => ?_⟩
    obtain ⟨e, y⟩ := y
    subst e
    exact hs i x ys σ _ (y xs q) p
  · have e : i = xs.length := by omega
    subst e
    exact .inl ⟨⟨xs, q, Nat.le_refl _⟩, by omega, hd ys σ H p⟩
def tLCL (K : PySem.W.Frag) (bs : List (Option Nat)) (tl : TE) (g : TG) (tt : TT) (te : TE) : TE := fun σ H Q => tl σ H fun x H1 => ∃ a xs, x = .ref a ∧ SqL K H1 a xs ∧ xs.length ≤ 100000 ∧ ∃ Pv : Nat → List V → St → Hp → Prop, Pv 0 [] (bst bs σ) H1 ∧
  (∀ i ys σ H, i ≤ xs.length → Pv i ys σ H → SqL K H a xs ∧ ys.length ≤ i) ∧
  (∀ i x ys σ H, xs[i]? = some x → Pv i ys σ H → g x σ H fun σ3 H3 => tt σ3 H3 fun b H4 => if b = true then te σ3 H4 fun v H5 => Pv (i + 1) (ys ++ [v]) σ3 H5 else Pv (i + 1) ys σ3 H4) ∧
  ∀ ys σ H, Pv xs.length ys σ H → ∀ p H', Same H H' → H' p = some (.lst ys) → Q (.ref p) H'
theorem pe_lcL {X : Cx} {scope : Scope} {cl : List (Str × Addr)} {N : List Str} {bs : List (Option Nat)} {tg iter elt : Expr} {ifs : List Expr} {pos : Pos} {tl : TE} {g : TG} {tt : TT} {te : TE} (B : Blk X scope cl N bs) (hc : X.calm = true)
    (hl : PE X iter tl) (hm : MonoE tl) (hg : ∀ C fp s H, PG (cxBlk X scope cl C N fp s H) tg g) (ht : ∀ C fp s H, PTs (cxBlk X scope cl C N fp s H) ifs tt) (he : ∀ C fp s H, PE (cxBlk X scope cl C N fp s H) elt te)
    (hs : ∀ x, foldedSetIterable iter X.env x = pure x := by intro _; rfl) : PE X (.ListComp elt [⟨tg, iter, ifs, 0⟩] scope pos) (tLCL X.K bs tl g tt te) := by
  intro pins s σ H Q I h
  refine @pe_lc X scope cl N bs tg iter elt ifs pos (iList X.K tl) g tt te B hc (@pi_list X _ _ _ hl) hg ht he hs pins s σ H Q I ?_
  refine hm σ H _ _ (fun x H1 h => ?_) h
  obtain ⟨a, xs, e, hS, hz, Pv, p0, pl, ps, pd⟩ := h
  exact ⟨a, e, ⟨xs, hS⟩, lc_list (Q := Q) Pv (leMil hz) p0 pl ps fun ys σ H hp p hpn => pd ys σ H hp p _ (same_add hpn) upd_same⟩
section
variable {X : Cx}
def rMins (K : PySem.W.Frag) : List V → Hp → VK → Prop := fun xs H Q => ∃ p, ∃ ns : List Int, xs = [.ref p] ∧ (SqL K H p (ns.map V.int) ∨ SqT K H p (ns.map V.int)) ∧ 0 < ns.length ∧ ∀ M, M ∈ ns → (∀ a ∈ ns, M ≤ a) → Q (.int M) H
theorem call_mins (hc : X.calm = true) : CallR X (.builtin "min") (rMins X.K) := by
  intro pins s σ H xs us Q I r h
  obtain ⟨p, ns, rfl, hp, hne, q⟩ := h
  obtain ⟨u, rfl, rx⟩ := vals1 r
  cases (show u = Value.ref p from rx)
  have fin : ∀ (vs : List Value) (it : Obj), Vals (ns.map V.int) vs → (∀ i v, vs.toArray[i]? = some v → ∃ t, v = Value.int (ns.getD i 0) t) → ∀ v h' tk, vs.toArray[argBest (fun i j => decide (ns.getD i 0 < ns.getD j 0)) (vs.toArray.size - 1)]? = some v →
      (∀ b o, b ∉ [s.heap.objs.size] → (s.heap.push it).get? b = some o → h'.get? b = some o) → EP X pins σ Q v { s with heap := h', toks := tk } := by
    intro vs it rv hval v h' tk hP hk
    obtain ⟨t, rfl⟩ := hval _ _ hP
    have hlen : vs.length = ns.length := by have := rv.length; simpa using this.symm
    obtain ⟨h1, h2⟩ := argBest_lt (fun i => ns.getD i 0) (vs.toArray.size - 1)
    rw [List.size_toArray, hlen] at h1 h2
    rw [List.size_toArray, hlen]
    refine ⟨.int _, H, I.kept (t' := tk) fun b o e2 => hk b o (fun hm => ?_) (Heap.get?_push_of_some _ e2), ⟨t, rfl⟩, q _ ?_ fun a ha => ?_⟩
    · rw [List.mem_singleton.mp hm] at e2
      exact Nat.lt_irrefl _ (Heap.lt_size e2)
    · have hlt : argBest (fun i j => decide (ns.getD i 0 < ns.getD j 0)) (ns.length - 1) < ns.length := by omega
      rw [List.getD_eq_getElem?_getD, List.getElem?_eq_getElem hlt]
      exact List.getElem_mem hlt
    · obtain ⟨j, hj, rfl⟩ := List.getElem_of_mem ha
      have := h2 j (by omega)
      rw [List.getD_eq_getElem?_getD (i := j), List.getElem?_eq_getElem hj] at this
      exact this
  have hvals : ∀ vs : List Value, Vals (ns.map V.int) vs → ∀ i v, vs.toArray[i]? = some v → ∃ t, v = Value.int (ns.getD i 0) t := by
    intro vs rv i v e
    have e' : vs[i]? = some v := by simpa using e
    have hlen : vs.length = ns.length := by have := rv.length; simpa using this.symm
    have hi : i < ns.length := by rw [← hlen]; exact (List.getElem?_eq_some_iff.mp e').1
    obtain ⟨u, e2, r2⟩ := rv.get (i := i) (x := .int ns[i]) (by rw [List.getElem?_map, List.getElem?_eq_getElem hi]; rfl)
    rw [e'] at e2
    cases e2
    obtain ⟨t, rfl⟩ := r2
    exact ⟨t, by rw [List.getD_eq_getElem?_getD, List.getElem?_eq_getElem hi]; rfl⟩
  have pos : ∀ vs : List Value, Vals (ns.map V.int) vs → 0 < vs.toArray.size := fun vs rv => by
    have := rv.length
    rw [List.length_map] at this
    rw [List.size_toArray]; omega
  rcases hp with hp | hp
  · obtain ⟨vs, rv, pl, hz⟩ := I.list hp
    have hl := pl.isList
    have hlt : p < s.heap.objs.size := by obtain ⟨_, e, _⟩ := hl; exact Heap.lt_size e
    refine call_min_walk (wpAny_pyIter_list hl ?_)
    refine ⟨s.heap.objs.size, [s.heap.objs.size, p], [s.heap.objs.size], _, _, _, _, rfl, Walks.list (A := X.A.in1) (I.ok.hd hc) _ p (Nat.ne_of_lt hlt) vs.toArray, ⟨⟨_, Heap.get?_push_size _ rfl, rfl, rfl⟩, hl.push _⟩, fun b hb => ?_, pos vs rv, CmpOf.ints_lt (fun i => ns.getD i 0) (hvals vs rv), fun v h' tk hP hk => fin vs _ rv (hvals vs rv) v h' tk hP hk⟩
    show b < (s.heap.push _).objs.size
    rw [Heap.size_push]
    simp only [List.mem_cons, List.not_mem_nil, or_false] at hb
    rcases hb with rfl | rfl
    · exact Nat.lt_succ_self _
    · exact Nat.lt_succ_of_lt hlt
  · obtain ⟨vs, rv, pl, hz⟩ := I.tuple hp
    have hl : s.heap.IsTuple p vs.toArray := pl
    have hlt : p < s.heap.objs.size := by obtain ⟨_, e, _⟩ := hl; exact Heap.lt_size e
    refine call_min_walk (wpAny_pyIter_tuple hl ?_)
    refine ⟨s.heap.objs.size, [s.heap.objs.size, p], [s.heap.objs.size], _, _, _, _, rfl, Walks.tuple (A := X.A.in1) (I.ok.hd hc) _ p (Nat.ne_of_lt hlt) vs.toArray, ⟨⟨_, Heap.get?_push_size _ rfl, rfl, rfl⟩, hl.push _⟩, fun b hb => ?_, pos vs rv, CmpOf.ints_lt (fun i => ns.getD i 0) (hvals vs rv), fun v h' tk hP hk => fin vs _ rv (hvals vs rv) v h' tk hP hk⟩
    show b < (s.heap.push _).objs.size
    rw [Heap.size_push]
    simp only [List.mem_cons, List.not_mem_nil, or_false] at hb
    rcases hb with rfl | rfl
    · exact Nat.lt_succ_self _
    · exact Nat.lt_succ_of_lt hlt
end
end L2
set_option Elab.async false
set_option linter.all false
set_option maxRecDepth 100000
set_option maxHeartbeats 4000000
namespace PySem
open Sem (wp)
open AutoSeq1 (wpAny_loadPart')
section
variable {prog : Program} {w : World} {A : Around} {E : Value → Shared → Prop} {s : Shared}
theorem nextOf_tuple_item {it l : Addr} {i : Nat} {items} {x : Value} {Q : Value → Shared → Prop} (hit : s.heap.IsTupleIter it l i)
    (hl : s.heap.IsTuple l items) (hx : items[i]? = some x)
    (hQ : ∀ h', h'.IsTupleIter it l (i + 1) → Heap.SameBut it s.heap h' → Q x { s with heap := h' }) :
    wpAny (model prog w) A (Builtin.SmallTypes.nextOf (.ref it)) Q E s := by
  obtain ⟨o, ho, hc, hd⟩ := id hit
  obtain ⟨ol, hol, _, nl, hdl⟩ := hl
  unfold Builtin.SmallTypes.nextOf
  refine wpAny_bind (wpAny_callSpecial?_slot (name := Str.ofString "__next__") hit.typeIs F.slot_tuple_iterator_next
    (wpAny_call_entry F.slot_tuple_iterator_next hit.typeIs F.entry_tuple_iterator_next ?_ (F.args_tuple_iterator_next_1 _)))
  show wpAny _ _ (field (.ref it) 0 >>= _) _ _ s
  refine wpAny_bind (wpAny_field ho hd (x := .ref l) rfl ?_)
  show wpAny _ _ (if (Value.ref l == Value.none) = true then _ else _) _ _ s
  rw [if_neg (show ¬ ((Value.ref l == Value.none) = true) from Bool.false_ne_true)]
  show wpAny _ _ (field (.ref it) 1 >>= _) _ _ s
  refine wpAny_bind (wpAny_field ho hd (x := .int i 0) rfl ?_)
  show wpAny _ _ (seqItems? (.ref l) >>= _) _ _ s
  refine wpAny_bind (wpAny_seqItems hol hdl ?_)
  simp only [Int.toNat_natCast, hx]
  refine wpAny_bind (wpAny_setField ho hd (by simp) (wpAny_pure ⟨x, rfl, wpAny_pure (hQ _ ?_ (Heap.SameBut.update ..))⟩))
  exact ⟨_, Heap.get?_update_self _ ho (Obj.isFreed_of_fields (Obj.data_mapFields hd _)), (Obj.cls_mapFields ..).trans hc, by
    rw [Obj.data_mapFields hd]; simp [rawInt]⟩
theorem nextOf_tuple_end {it l : Addr} {i : Nat} {items} {Q : Value → Shared → Prop} (hh : A.handled = none)
    (hit : s.heap.IsTupleIter it l i) (hl : s.heap.IsTuple l items) (hx : items[i]? = none)
    (hE : ∀ h' e, Heap.ExtBut it s.heap h' → (∃ o, h'.get? e = some o ∧ o.cls = .type "StopIteration") → E (.ref e) { s with heap := h' }) :
    wpAny (model prog w) A (Builtin.SmallTypes.nextOf (.ref it)) Q E s := by
  obtain ⟨o, ho, hc, hd⟩ := id hit
  obtain ⟨ol, hol, _, nl, hdl⟩ := hl
  unfold Builtin.SmallTypes.nextOf
  refine wpAny_bind (wpAny_callSpecial?_slot (name := Str.ofString "__next__") hit.typeIs F.slot_tuple_iterator_next
    (wpAny_call_entry F.slot_tuple_iterator_next hit.typeIs F.entry_tuple_iterator_next ?_ (F.args_tuple_iterator_next_1 _)))
  show wpAny _ _ (field (.ref it) 0 >>= _) _ _ s
  refine wpAny_bind (wpAny_field ho hd (x := .ref l) rfl ?_)
  show wpAny _ _ (if (Value.ref l == Value.none) = true then _ else _) _ _ s
  rw [if_neg (show ¬ ((Value.ref l == Value.none) = true) from Bool.false_ne_true)]
  show wpAny _ _ (field (.ref it) 1 >>= _) _ _ s
  refine wpAny_bind (wpAny_field ho hd (x := .int i 0) rfl ?_)
  show wpAny _ _ (seqItems? (.ref l) >>= _) _ _ s
  refine wpAny_bind (wpAny_seqItems hol hdl ?_)
  simp only [Int.toNat_natCast, hx]
  refine wpAny_bind (wpAny_rule (wpAny_bind (wpAny_setField ho hd (by simp) ?_)))
  show wpAny _ _ (newExc (.type "StopIteration") [] >>= _) _ _ _
  refine wpAny_bind ?_
  simp only [newExc, newTuple]
  refine wpAny_bind (wpAny_newObj_type ?_ (by size_fits))
  refine wpAny_bind (m := firstArgMember _ _) (wpAny_of_eq (a := Value.none) (by first | rfl | (simp only [firstArgMember]; rfl)) ?_)
  refine wpAny_newObj_type ?_ (by size_fits)
  simp only [raiseNew]
  refine wpAny_bind (wpAny_handled ?_)
  first | rw [show A.in1.handled = none from hh] | rw [hh]
  refine wpAny_bind (wpAny_pure (wpAny_throw ?_))
  exact hE _ _ (((Heap.SameBut.update ..).extBut.push _).push _) ⟨_, Heap.get?_push_size _ rfl, rfl⟩
end
theorem Draws.tupleD {prog : Program} {w : World} {A : Around} (hh : A.handled = none) (it l : Addr) (hne : l ≠ it) (items : Array Value) :
    Draws prog w A it [it, l] items.size (fun i v => items[i]? = some v) (fun i h => h.IsTupleIter it l i ∧ h.IsTuple l items) where
  live := fun _ _ st => let ⟨o, ho, _⟩ := st.1; ⟨o, ho⟩
  frame := fun _ _ _ st hk => ⟨let ⟨o, ho, r⟩ := st.1; ⟨o, hk it (by simp) o ho, r⟩, let ⟨o, ho, r⟩ := st.2; ⟨o, hk l (by simp) o ho, r⟩⟩
  item := fun i s Q E hi st hQ => by
    refine nextOf_tuple_item st.1 st.2 (x := items[i]) (by simp [hi]) fun h' hit' hs' => ?_
    exact hQ _ h' s.toks (by simp [hi]) ⟨hit', st.2.extBut hs'.extBut hne⟩ hs'
  done := fun s Q E st hE => nextOf_tuple_end hh st.1 st.2 (by simp) hE
theorem meets_enumerate_newT (l : Addr) (items : Array Value) (n : Nat) (dct : Option Addr) (sl : Array (Option Value)) :
    Meets (Builtin.«enumerate.__new__» ⟨[.type "enumerate", .ref l], []⟩) (fun _ R s => s.heap.get? l = some { cls := .type "tuple", dict := dct, data := .seq items n, slots := sl } ∧
      R (.ok (.ret (.ref (s.heap.push { cls := .type "tuple_iterator", data := .fields #[.ref l, .int 0 0] }).objs.size)))
        { s with heap := (s.heap.push { cls := .type "tuple_iterator", data := .fields #[.ref l, .int 0 0] }).push { cls := .type "enumerate", data := .fields #[.none, .bool false, .ref s.heap.objs.size, rawInt 0, .none, .none] } }) :=
  .of_wp fun prog w A R s h => by
    obtain ⟨hp, g, d, tk, os⟩ := s; obtain ⟨hl, h⟩ := h
    have hsub := sub_enumerate
    have hL : Heap.IsTuple (Shared.heap ⟨hp, g, d, tk, os⟩) l items := ⟨_, hl, rfl, n, rfl⟩
    wp_walk using wpAny_loadPart' hl
    refine wpAny_stack_any fun st => wpAny_pure ?_
    split
    · rename_i c _ _ _ _ _
      cases (c == Value.type "enumerate")
      · wp_walk using wpAny_loadPart' hl, wpAny_pyIter_tuple hL
        exact ⟨_, rfl, h⟩
      · wp_walk using wpAny_loadPart' hl, wpAny_pyIter_tuple hL
        exact ⟨_, rfl, h⟩
    · wp_walk using wpAny_loadPart' hl, wpAny_pyIter_tuple hL
      exact ⟨_, rfl, h⟩
section
variable {prog : Program} {w : World} {A : Around} {E : Value → Shared → Prop} {s : Shared}
theorem call_enumerate_tuple {l : Addr} {items : Array Value} {Q : Value → Shared → Prop} (hL : s.heap.IsTuple l items)
    (h : ∀ h', IsEnum h' (s.heap.objs.size + 1) s.heap.objs.size 0 .none → h'.IsTupleIter s.heap.objs.size l 0 → h'.objs.size = s.heap.objs.size + 2 →
      (∀ b o, s.heap.get? b = some o → h'.get? b = some o) → Q (.ref (s.heap.objs.size + 1)) { s with heap := h' }) :
    wpAny (model prog w) A (call (.type "enumerate") [.ref l]) Q E s := by
  obtain ⟨⟨c, dct, dt, sl⟩, hl, hc, n, hd⟩ := hL
  replace hc : c = .type "tuple" := hc
  replace hd : dt = .seq items n := hd
  subst hc hd
  refine callType_new F.called_enumerate (by decide) (F.typeCall_enumerate_1 _) (F.newCall_enumerate_1 _) (fun obj => F.args_object_init_2 obj _) F.entry_enumerate_new
    (meets_enumerate_newT l items n dct sl) ⟨hl, ?_⟩
  have hz : (s.heap.push { cls := .type "tuple_iterator", data := .fields #[.ref l, .int 0 0] }).objs.size = s.heap.objs.size + 1 := Heap.size_push ..
  show _ ∧ _
  rw [hz]
  have he : IsEnum ((s.heap.push { cls := .type "tuple_iterator", data := .fields #[.ref l, .int 0 0] }).push
      { cls := .type "enumerate", data := .fields #[.none, .bool false, .ref s.heap.objs.size, rawInt 0, .none, .none] }) (s.heap.objs.size + 1) s.heap.objs.size 0 .none := by
    have := Heap.get?_push_size (s.heap.push { cls := .type "tuple_iterator", data := .fields #[.ref l, .int 0 0] })
      (o := { cls := .type "enumerate", data := .fields #[.none, .bool false, .ref s.heap.objs.size, rawInt 0, .none, .none] }) rfl
    rw [hz] at this; exact this
  refine ⟨⟨_, he, rfl⟩, h _ he ⟨_, Heap.get?_push_of_some _ (Heap.get?_push_size _ rfl), rfl, rfl⟩ (by rw [Heap.size_push, hz]) fun b o x => Heap.get?_push_of_some _ (Heap.get?_push_of_some _ x)⟩
end
end PySem
namespace L2
open PySem PySem.Spec PyProof.Rows
theorem Inv.turnedL {X : Cx} {pins : List (Addr × Obj)} {σ : St} {H : Hp} {s : Shared} {h' : Heap} {t' : Nat} {ch : List Addr} (I : Inv X pins σ H s) (k : ∀ b o, b ∉ ch → s.heap.get? b = some o → h'.get? b = some o) (hf : ∀ b ∈ ch, FpOk X pins H b) : Inv X pins σ H { s with heap := h', toks := t' } := by
  have nit : ∀ b u, H b = some u → b ∉ ch := fun b u e z => by rw [(hf b z).1] at e; cases e
  refine I.step (g' := s.gens) (d' := s.drawn) (ch := ch) (fun b hb => ⟨(hf b hb).2.2.2.1, (hf b hb).2.1, (hf b hb).2.2.2.2.1, (hf b hb).2.2.2.2.2⟩) (fun b o _ _ hc e _ => k b o hc e) (fun b o _ _ hc e _ => ⟨o.slots, k b o hc e⟩) (fun _ _ _ _ n => n)
    (fun b o hc e => ⟨o, k b o hc e⟩) (fun _ _ e => e) (fun _ _ _ e => e) (fun b ps e => ⟨#[], by rw [e]; simp⟩) (fun m hm => ?_) (fun b u e => ?_) I.bare
  · obtain ⟨o, es, ep, ho, r⟩ := hm
    exact ⟨o, es, ep, k _ o (fun z => (hf _ z).2.1 rfl) ho, r⟩
  · refine (I.hok b u e).stay (fun c v hc q => k c v ?_ q) (fun _ q => q) fun _ _ q => q
    rcases hc with z | z
    · rw [z]; exact nit b u e
    · exact nit c _ z
def Ite (K : PySem.W.Frag) (a : Addr) : It :=
  ⟨fun i H => ∃ xs x, SqT K H a xs ∧ xs[i]? = some x, fun i H x H' => ∃ T y, x = .ref T ∧ H T = none ∧ H' = upd H T (.tup [.int i, y]) ∧ ∀ xs, SqT K H a xs → xs[i]? = some y, fun i H => ∃ xs, SqT K H a xs ∧ xs.length ≤ i⟩
theorem turn_enum {P : Program} {w : World} {K : PySem.W.Frag} {elts : List Expr} {x1 : Nat} {pos : Pos} (a e it : Addr) (hne : e ≠ it) :
    Turn P w K (.Tuple elts x1 pos) (Ite K a) [e, it] e (fun i h => (∃ old, IsEnum h e it i old) ∧ h.IsTupleIter it a i) where
  mem := by simp
  obj := fun i h st b hb => by
    obtain ⟨⟨old, he⟩, o, ho, hc, hd⟩ := st
    rcases List.mem_cons.mp hb with rfl | hb
    · exact ⟨_, he, fun v z => nomatch z⟩
    · rw [List.mem_singleton.mp hb]
      exact ⟨o, ho, fun v z => by rw [hd] at z; cases z⟩
  keep := fun i h h' st k => by
    obtain ⟨⟨old, he⟩, o, ho, r⟩ := st
    exact ⟨⟨old, k e (by simp) _ he⟩, o, k it (by simp) o ho, r⟩
  item := by
    intro X hP hw hK hc i pins s σ H E I hf st hg
    subst hP hw hK
    obtain ⟨xs, x, hq, hx⟩ := hg
    obtain ⟨its, rv, p, hz⟩ := I.tuple hq
    obtain ⟨u, hu, ru⟩ := rv.get hx
    obtain ⟨⟨old, he⟩, hit⟩ := st
    have fe := hf e (by simp)
    have fi := hf it (by simp)
    have ht : s.heap.IsTuple a its.toArray := p
    have hlt : i < its.toArray.size := by
      rw [List.size_toArray]
      exact (List.getElem?_eq_some_iff.mp hu).1
    have hai : a ≠ it := fun z => by
      obtain ⟨o, ho, h1, _⟩ := ht
      obtain ⟨o', ho', h2, _⟩ := hit
      rw [z, ho'] at ho
      cases ho
      rw [h2] at h1
      exact absurd (Value.type.inj h1) (by decide)
    have hae : e ≠ a := fun z => by
      obtain ⟨o, ho, h1, _⟩ := ht
      have he' : s.heap.get? e = _ := he
      rw [z, ho] at he'
      cases he'
      exact absurd (Value.type.inj h1) (by decide)
    refine wpAny_pyNext_enum_itemD (Draws.tupleD (by simp [I.ok.hd hc]) it a hai its.toArray) he ⟨hit, ht⟩ hlt hne (by simp only [List.mem_cons, List.not_mem_nil, or_false, not_or]; exact ⟨hne, hae⟩) fun x' h' tk hP ho hs' hT hsz hk => ?_
    have ex : x' = u := by
      rw [List.getElem?_toArray] at hP
      rw [hu] at hP
      exact (Option.some.inj hP).symm
    subst ex
    have I1 : Inv X pins σ H { s with heap := h', toks := tk + 1 } := I.turnedL (ch := [e, it]) (fun b o hb q => hk b o (fun z => hb (by simp [z])) (fun z => hb (by simp [z])) q) fun b hb => hf b hb
    refine ⟨_, rfl, wpAny_letOwnedTupleGo_enum (s := { s with heap := h', toks := tk + 1 }) ho fun h2 he2 sb => ?_⟩
    have I2 : Inv X pins σ H { s with heap := h2, toks := tk + 1 } := Inv.turnedL (s := { s with heap := h', toks := tk + 1 }) (t' := tk + 1) (ch := [e]) I1 (fun b o hb q => (sb.2 b (fun z => hb (by simp [z]))).trans q) fun b hb => by rw [List.mem_singleton.mp hb]; exact fe
    have hn : H s.heap.objs.size = none := I.hok.fresh (Nat.le_refl _)
    have fT : FpOk X pins H s.heap.objs.size := I.fpOk (Nat.le_refl _) hn
    have heT : s.heap.objs.size ≠ e := Nat.ne_of_gt (Heap.lt_size he)
    have hT2 : h2.get? s.heap.objs.size = some { cls := .type "tuple", data := .seq #[.int i tk, x'] } := (sb.2 _ heT).trans hT
    refine ⟨.ref s.heap.objs.size, upd H s.heap.objs.size (.tup [.int i, x]), I2.track fT I.sz ?_, rfl, ⟨_, x, rfl, hn, rfl, fun ys hy => by rw [I.tuple_inj hy hq]; exact hx⟩, ⟨⟨x', by simpa using he2⟩, ?_⟩, fun b hb => ?_⟩
    · exact ⟨le1000 rfl, [.int i tk, x'], .cons ⟨tk, rfl⟩ (.cons ru .nil), ⟨_, hT2, rfl, _, rfl⟩⟩
    · obtain ⟨o, ho', r⟩ := hs'.1
      exact ⟨o, (sb.2 _ (Ne.symm hne)).trans ho', r⟩
    · rcases List.mem_cons.mp hb with rfl | hb
      · rw [upd_ne (Ne.symm heT)]; exact fe.1
      · rw [List.mem_singleton.mp hb, upd_ne]
        · exact fi.1
        · obtain ⟨o, ho', _⟩ := hit
          exact Nat.ne_of_lt (Heap.lt_size ho')
  done := by
    intro X hP hw hK hc i pins s σ H E I hf st hg
    subst hP hw hK
    obtain ⟨xs, hq, hx⟩ := hg
    obtain ⟨its, rv, p, hz⟩ := I.tuple hq
    obtain ⟨⟨old, he⟩, hit⟩ := st
    have ht : s.heap.IsTuple a its.toArray := p
    have hl := rv.length
    have hT : s.TypeIs (.ref e) "enumerate" := ⟨_, he, rfl⟩
    unfold pyNext
    refine wpAny_bind (wpAny_attempt (wpAny_callSpecial?_slot (name := Str.ofString "__next__") hT F.slot_enumerate_next
      (wpAny_call_entry F.slot_enumerate_next hT F.entry_enumerate_next ?_ (F.args_enumerate_next_1 _))))
    show wpAny _ _ (field (.ref e) 2 >>= _) _ _ _
    refine wpAny_bind (wpAny_field he rfl (x := .ref it) rfl ?_)
    refine wpAny_bind (nextOf_tuple_end (by simp [I.ok.hd hc]) hit ht (by simp; omega) fun h' x he' hx' => ?_)
    obtain ⟨o, ho, hc'⟩ := hx'
    refine wpAny_bind (wpAny_isInstance (T := "StopIteration") (b := true) ⟨o, ho, hc'⟩ isSubtype_stop ?_)
    exact wpAny_pure ⟨rfl, I.turnedL (t' := s.toks) (ch := [it]) (fun b o hb q => he' b o (fun z => hb (by simp [z])) q) fun b hb => by rw [List.mem_singleton.mp hb]; exact hf it (by simp)⟩
  self := fun _ _ _ _ _ st h => by
    obtain ⟨⟨old, he⟩, _⟩ := st
    exact wpAny_pyIter_enum he h
def iEnum (K : PySem.W.Frag) (ta : TA) : TI := fun σ H R => ta σ H fun vs H1 => ∃ a, vs = [.ref a] ∧ (∃ xs, SqT K H1 a xs) ∧ R (Ite K a) H1
theorem boot_enum : bootBuiltins "enumerate" = some (.type "enumerate") := by decide +kernel
theorem pi_enum {X : Cx} {elts : List Expr} {x1 : Nat} {tpos : Pos} {a : Expr} {ta : TA} {p pos : Pos} (hg : Gl X "enumerate") (hm : X.mg "enumerate" = none) (ha : PA X [a] ta) (hpl : plainE a = true) : PI X (.Tuple elts x1 tpos) (.Call (.Name "enumerate" p) [a] [] pos) (iEnum X.K ta) := by
  intro pins s σ H R I h
  refine Call_ (ld_blt I hg hm boot_enum (PyProof.Rows.callWith_type1 (thn (ha pos pins s σ H _ I h) fun us s1 ⟨vs, H1, I1, r1, q1⟩ => ?_) (star_cons hpl) rfl))
  obtain ⟨b, e, ⟨xs, hq⟩, q⟩ := q1
  subst e
  obtain ⟨u, rfl, ru⟩ := vals1 r1
  cases (show u = Value.ref b from ru)
  obtain ⟨its, rv, pt, hz⟩ := I1.tuple hq
  refine call_enumerate_tuple (show s1.heap.IsTuple b its.toArray from pt) fun h' he hi hsz hk => ?_
  have I2 : Inv X pins σ H1 { s1 with heap := h' } := I1.kept (t' := s1.toks) hk
  refine wpAny_pyIter_enum (s := { s1 with heap := h' }) he ?_
  refine ⟨s1.heap.objs.size + 1, [s1.heap.objs.size + 1, s1.heap.objs.size], _, _, H1, rfl, I2, turn_enum b _ _ (Nat.succ_ne_self _), ⟨⟨.none, he⟩, hi⟩, fun c hc => ?_, q⟩
  rcases List.mem_cons.mp hc with rfl | hc
  · exact I1.fpOk (Nat.le_succ _) (I1.hok.fresh (Nat.le_succ _))
  · rw [List.mem_singleton.mp hc]
    exact I1.fpOk (Nat.le_refl _) (I1.hok.fresh (Nat.le_refl _))
def tLCE (K : PySem.W.Frag) (bs : List (Option Nat)) (ta : TA) (g : TG) (tt : TT) (te : TE) : TE := fun σ H Q => ta σ H fun vs H1 => ∃ a xs, vs = [.ref a] ∧ SqT K H1 a xs ∧ xs.length ≤ 100000 ∧ ∃ Pv : Nat → List V → St → Hp → Prop, Pv 0 [] (bst bs σ) H1 ∧
  (∀ i ys σ H, i ≤ xs.length → Pv i ys σ H → SqT K H a xs ∧ ys.length ≤ i) ∧
  (∀ i x ys σ H, xs[i]? = some x → Pv i ys σ H → ∀ T H2, Same H H2 → H2 T = some (.tup [.int i, x]) → g (.ref T) σ H2 fun σ3 H3 => tt σ3 H3 fun b H4 => if b = true then te σ3 H4 fun v H5 => Pv (i + 1) (ys ++ [v]) σ3 H5 else Pv (i + 1) ys σ3 H4) ∧
  ∀ ys σ H, Pv xs.length ys σ H → ∀ p H', Same H H' → H' p = some (.lst ys) → Q (.ref p) H'
theorem pe_lcE {X : Cx} {scope : Scope} {cl : List (Str × Addr)} {N : List Str} {bs : List (Option Nat)} {elts : List Expr} {x1 : Nat} {tpos : Pos} {a elt : Expr} {ifs : List Expr} {p pos' pos : Pos} {ta : TA} {g : TG} {tt : TT} {te : TE} (B : Blk X scope cl N bs) (hc : X.calm = true)
    (hgl : Gl X "enumerate") (hmr : X.mg "enumerate" = none) (ha : PA X [a] ta) (hm : MonoA ta) (hpl : plainE a = true) (hg : ∀ C fp s H, PG (cxBlk X scope cl C N fp s H) (.Tuple elts x1 tpos) g) (ht : ∀ C fp s H, PTs (cxBlk X scope cl C N fp s H) ifs tt) (he : ∀ C fp s H, PE (cxBlk X scope cl C N fp s H) elt te)
    (hs : ∀ x, foldedSetIterable (.Call (.Name "enumerate" p) [a] [] pos') X.env x = pure x := by intro _; rfl) : PE X (.ListComp elt [⟨.Tuple elts x1 tpos, .Call (.Name "enumerate" p) [a] [] pos', ifs, 0⟩] scope pos) (tLCE X.K bs ta g tt te) := by
  intro pins s σ H Q I h
  refine @pe_lc X scope cl N bs _ _ elt ifs pos (iEnum X.K ta) g tt te B hc (@pi_enum X elts x1 tpos a ta p pos' hgl hmr ha hpl) hg ht he hs pins s σ H Q I ?_
  refine hm σ H _ _ (fun vs H1 h => ?_) h
  obtain ⟨a, xs, e, hS, hz, Pv, p0, pl, ps, pd⟩ := h
  refine ⟨a, e, ⟨xs, hS⟩, fun i m ys σ H => m = xs.length - i ∧ i ≤ xs.length ∧ Pv i ys σ H, ⟨xs.length, by simp, Nat.zero_le _, p0⟩, ?_⟩
  rintro i m ys σ H ⟨rfl, hi, pv'⟩
  obtain ⟨q, ql⟩ := pl i ys σ H hi pv'
  have hz' := leMil hz
  by_cases hlt : i < xs.length
  · refine .inr ⟨⟨xs, xs[i], q, by simp [hlt]⟩, by omega, Pv (i + 1), fun zs σ' H' p' => ⟨xs.length - (i + 1), by omega, rfl, hlt, p'⟩, fun x H' y => ?_⟩
    obtain ⟨T, y', rfl, hT, rfl, hy⟩ := y
    exact ps i y' ys σ H (hy xs q) pv' T _ (same_add hT) upd_same
  · have e : i = xs.length := by omega
    subst e
    exact .inl ⟨⟨xs, q, Nat.le_refl _⟩, by omega, fun p hpn => pd ys σ H pv' p _ (same_add hpn) upd_same⟩
end L2
set_option linter.all false
set_option maxRecDepth 100000
namespace SetT
open PySem PySem.SetTable
def adv (mask : Nat) (p : Probe) : Probe :=
  if p.more > 0 then { p with j := p.j + 1, more := p.more - 1 } else
  { p with j := (leap mask p.i p.perturb).1, more := runEnd mask (leap mask p.i p.perturb).1 - (leap mask p.i p.perturb).1, i := (leap mask p.i p.perturb).1, perturb := (leap mask p.i p.perturb).2 }
def st0 (mask : Nat) (b : Nat) : Probe := { j := b % (mask + 1), more := runEnd mask (b % (mask + 1)) - b % (mask + 1), i := b % (mask + 1), perturb := b, dummy := none }
def stk (mask b : Nat) : Nat → Probe
  | 0 => st0 mask b
  | k + 1 => adv mask (stk mask b k)
def pos (mask b k : Nat) : Nat := (stk mask b k).j
def fL (mask x : Nat) : Nat := (x * 5 + 1) % (mask + 1)
def itF (mask x : Nat) : Nat → Nat
  | 0 => x
  | n + 1 => fL mask (itF mask x n)
def orbit (mask x : Nat) : Nat → List Nat
  | 0 => []
  | n + 1 => x :: orbit mask (fL mask x) n
def fullB (mask : Nat) : Bool := (List.range (mask + 1)).all (fun z => (orbit mask 0 (mask + 1)).contains z) && (itF mask 0 (mask + 1) == 0)
theorem full7 : fullB 7 = true := by decide +kernel
theorem full31 : fullB 31 = true := by decide +kernel
theorem full127 : fullB 127 = true := by decide +kernel
theorem full511 : fullB 511 = true := by decide +kernel
def Rise (xs : Array Nat) : Prop := ∀ i j, i < j → j < xs.size → xs.getD i 0 < xs.getD j 0
end SetT
set_option linter.all false
set_option maxRecDepth 100000
namespace SetT
open PySem PySem.SetTable
structure SetOk (t : SetTable) (es : Array (Int × Value)) : Prop where
  full : fullB t.mask = true
  odd : t.mask % 2 = 1
  nod : t.dummies = #[]
  rise : Rise t.place
  le : ∀ (i v : Nat), t.place[i]? = some v → v < t.mask + 1
  size : t.place.size = es.size
  path : ∀ (i v : Nat) (e : Int × Value), t.place[i]? = some v → es[i]? = some e → ∃ k, pos t.mask (bits e.1) k = v ∧ ∀ k', k' < k → ∃ i' : Nat, t.place[i']? = some (pos t.mask (bits e.1) k')
variable {t : SetTable} {es : Array (Int × Value)}
end SetT
set_option linter.all false
set_option maxRecDepth 100000
namespace SetT
open PySem PySem.SetTable
def Occ (owner : Array (Option Nat)) (j : Nat) : Prop := (owner.getD j (some 0)).isNone = false
structure LayOk (mask : Nat) (hs : List Int) (owner : Array (Option Nat)) (k : Nat) : Prop where
  size : owner.size = mask + 1
  cnt : owner.toList.countP (·.isNone) + k = mask + 1
  lt : ∀ (j m : Nat), owner[j]? = some (some m) → m < k
  has : ∀ m, m < k → ∃ j : Nat, owner[j]? = some (some m)
  path : ∀ (j m : Nat) (h : Int), owner[j]? = some (some m) → hs[m]? = some h → ∃ kk, pos mask (bits h) kk = j ∧ ∀ k', k' < kk → Occ owner (pos mask (bits h) k')
end SetT
set_option Elab.async false
set_option linter.all false
set_option maxRecDepth 100000
set_option maxHeartbeats 4000000
namespace SetT
open PySem PySem.SetTable PySem.Spec PyProof.Rows
variable {prog : Program} {w : World} {N : Addr → Prop} {A : Around} {E : Value → Shared → Prop} {s : Shared}
abbrev IsP (prog : Program) (w : World) (h : Heap) (k : List Int) (b : Addr) : Prop := IsTupleKey (intKind prog w) h k b
abbrev hk (prog : Program) (w : World) (k : List Int) : Int := (tupleKind (intKind prog w)).hash k
def EntK (prog : Program) (w : World) (N : Addr → Prop) (h : Heap) (e : Int × Value) (k : List Int) : Prop := ∃ b, (e.2 = .ref b ∧ N b) ∧ IsP prog w h k b ∧ e.1 = hk prog w k
theorem EntK.inj {h : Heap} {e : Int × Value} {k k' : List Int} (x : EntK prog w N h e k) (y : EntK prog w N h e k') : k = k' := by
  obtain ⟨b, ⟨e1, _⟩, p, _⟩ := x
  obtain ⟨b', ⟨e2, _⟩, p', _⟩ := y
  rw [e1] at e2
  cases e2
  exact p.inj p'
end SetT
set_option Elab.async false
set_option linter.all false
set_option maxRecDepth 100000
set_option maxHeartbeats 4000000
namespace SetT
open PySem PySem.SetTable PySem.Spec PyProof.Rows
variable {prog : Program} {w : World} {N : Addr → Prop} {A : Around} {E : Value → Shared → Prop} {s : Shared}
end SetT
set_option Elab.async false
set_option linter.all false
set_option maxRecDepth 100000
set_option maxHeartbeats 4000000
namespace SetT
open PySem PySem.SetTable PySem.Spec PyProof.Rows
variable {prog : Program} {w : World} {N : Addr → Prop} {A : Around} {E : Value → Shared → Prop} {s : Shared}
def Mk (m : Nat) : Prop := m = 7 ∨ m = 31 ∨ m = 127 ∨ m = 511
theorem Mk.full {m : Nat} (h : Mk m) : fullB m = true ∧ m % 2 = 1 := by
  rcases h with rfl | rfl | rfl | rfl
  · exact ⟨full7, rfl⟩
  · exact ⟨full31, rfl⟩
  · exact ⟨full127, rfl⟩
  · exact ⟨full511, rfl⟩
end SetT
set_option Elab.async false
set_option linter.all false
set_option maxRecDepth 100000
set_option maxHeartbeats 4000000
namespace SetT
open PySem PySem.SetTable PySem.Spec PyProof.Rows
variable {prog : Program} {w : World} {A : Around} {E : Value → Shared → Prop} {s : Shared}
end SetT
set_option Elab.async false
set_option linter.all false
set_option maxRecDepth 100000
set_option maxHeartbeats 4000000
namespace L2
open PySem PySem.Spec PyProof.Rows
structure ZSt (h : Heap) (z TI TO i1 i2 a c : Addr) (i : Nat) : Prop where
  zip : IsZip h z TI TO .none
  ti : IsPair h TI (.ref i1) (.ref i2)
  to : ∃ u v, IsPair h TO u v
  it1 : h.IsTupleIter i1 a i
  it2 : h.IsListIter i2 c i
theorem boot_zip : bootBuiltins "zip" = some (.type "zip") := by decide +kernel
end L2
set_option Elab.async false
set_option linter.all false
set_option maxRecDepth 100000
set_option maxHeartbeats 4000000
namespace PySem
open Sem (wp)
open PyProof.Rows
section
variable {prog : Program} {w : World} {A : Around} {R : Result → Shared → Prop} {I : Addr} {fp wr : List Addr} {n : Nat} {P : Nat → Value → Prop} {St : Nat → Heap → Prop} {d : Value}
theorem maxD_loop (W : Walks prog w A.in1 I fp wr n P St) (bt : Nat → Nat → Bool) (hcmp : CmpOf prog w A.in1 .Gt P bt) (S : Addr) (hSf : S ∉ fp) :
    ∀ (k j : Nat) (s : Shared) (vb : Value) (c : Nat), n - (j + 1) = k → j + 1 ≤ n → St (j + 1) s.heap → P (argBest bt j) vb →
    s.heap.get? S = some { cls := .type "list", dict := none, data := .seq #[vb, vb] c, slots := #[] } →
    (∀ v h' tk, P (argBest bt (n - 1)) v → (∀ b o, b ∉ wr → b ≠ S → s.heap.get? b = some o → h'.get? b = some o) → R (.ok (.ret v)) { s with heap := h', toks := tk }) →
    codeAny (model prog w) A (.builtin "max.loop" ⟨[.ref I, .none, .ref S], [("default", d)]⟩) R s := by
  have hSw : S ∉ wr := fun h => hSf (W.sub _ h)
  have hname : (toString "max" ++ toString ".loop" : String) = "max.loop" := by decide
  intro k
  induction k with
  | zero =>
    intro j s vb c hk hj hst hPb hS hR
    have hin : j + 1 = n := by omega
    refine codeAny_builtin F.entry_max_loop ?_
    rw [Around.under_plainId F.plain_max_loop _]
    show wpAny _ A.in1 (seqItems? (.ref S) >>= _) _ _ s
    refine wpAny_bind (wpAny_seqItems hS rfl ?_)
    show wpAny _ A.in1 (tryCatch (pyNext (.ref I)) _ >>= _) _ _ s
    refine wpAny_bind (wpAny_tryCatch (W.done s _ _ (hin ▸ hst) fun h' tk hk' => ?_))
    have hS' := hk' S _ hSw hS
    show wpAny _ A.in1 (updateSeq S (fun _ => #[]) >>= _) _ _ _
    refine wpAny_bind ?_
    refine wpAny_updateSeq hS' rfl (wpAny_bind (wpAny_letGo (wpAny_pure ?_)))
    refine hR vb _ tk (by rw [← hin]; exact hPb) fun b o hbw hbS e => (Heap.get?_update_other _ _ (Ne.symm hbS)).trans (hk' b o hbw e)
  | succ k ih =>
    intro j s vb c hk hj hst hPb hS hR
    have hlt : j + 1 < n := by omega
    refine codeAny_builtin F.entry_max_loop ?_
    rw [Around.under_plainId F.plain_max_loop _]
    show wpAny _ A.in1 (seqItems? (.ref S) >>= _) _ _ s
    refine wpAny_bind (wpAny_seqItems hS rfl ?_)
    show wpAny _ A.in1 (tryCatch (pyNext (.ref I)) _ >>= _) _ _ s
    refine wpAny_bind (wpAny_tryCatch (W.item (j + 1) s _ _ hlt hst fun v h' tk hP hst' hk' => ?_))
    have hS' := hk' S _ hSw hS
    show wpAny _ A.in1 (tryCatch (holding [v, v] (richCompare .Gt v vb >>= _)) _ >>= _) _ _ _
    refine wpAny_bind (wpAny_tryCatch (wpAny_holding (wpAny_bind (hcmp (j + 1) (argBest bt j) v vb _ _ _ hP hPb ?_))))
    refine wpAny_bind (wpAny_holding (wpAny_truthy_bool ?_))
    refine wpAny_bind (wpAny_letGo (wpAny_pure ?_))
    cases hb : bt (j + 1) (argBest bt j) with
    | true =>
      simp only [if_true]
      refine wpAny_bind ?_
      refine wpAny_updateSeq hS' rfl (wpAny_bind (wpAny_letGo ?_))
      rw [hname]
      refine wpAny_pure ⟨plainId_quiet F.plain_max_loop _, ih (j + 1) _ v _ (by omega) hlt (W.frame _ _ _ hst' fun b hbf o e => ?_) (by simp only [argBest, hb, if_true]; exact hP) (Heap.get?_update_self _ hS' rfl)
        fun v' h'' tk'' hP' hk'' => ?_⟩
      · exact (Heap.get?_update_other _ _ (fun h : S = b => hSf (by rw [h]; exact hbf))).trans e
      · exact hR v' h'' tk'' hP' fun b o hbw hbS e => hk'' b o hbw hbS ((Heap.get?_update_other _ _ (Ne.symm hbS)).trans (hk' b o hbw e))
    | false =>
      simp only [Bool.false_eq_true, if_false]
      refine wpAny_bind (wpAny_letGo ?_)
      rw [hname]
      refine wpAny_pure ⟨plainId_quiet F.plain_max_loop _, ih (j + 1) _ vb c (by omega) hlt hst' (by simp only [argBest, hb, Bool.false_eq_true, if_false]; exact hPb) hS' fun v' h'' tk'' hP' hk'' => ?_⟩
      exact hR v' h'' tk'' hP' fun b o hbw hbS e => hk'' b o hbw hbS (hk' b o hbw e)
theorem maxD_first (W : Walks prog w A.in1 I fp wr n P St) (bt : Nat → Nat → Bool) (hcmp : CmpOf prog w A.in1 .Gt P bt) (S : Addr) (hSf : S ∉ fp) (hn : 0 < n) {s : Shared} {c : Nat} (hst : St 0 s.heap)
    (hS : s.heap.get? S = some { cls := .type "list", dict := none, data := .seq #[] c, slots := #[] })
    (hR : ∀ v h' tk, P (argBest bt (n - 1)) v → (∀ b o, b ∉ wr → b ≠ S → s.heap.get? b = some o → h'.get? b = some o) → R (.ok (.ret v)) { s with heap := h', toks := tk }) :
    codeAny (model prog w) A (.builtin "max.loop" ⟨[.ref I, .none, .ref S], [("default", d)]⟩) R s := by
  have hSw : S ∉ wr := fun h => hSf (W.sub _ h)
  have hname : (toString "max" ++ toString ".loop" : String) = "max.loop" := by decide
  refine codeAny_builtin F.entry_max_loop ?_
  rw [Around.under_plainId F.plain_max_loop _]
  show wpAny _ A.in1 (seqItems? (.ref S) >>= _) _ _ s
  refine wpAny_bind (wpAny_seqItems hS rfl ?_)
  show wpAny _ A.in1 (tryCatch (pyNext (.ref I)) _ >>= _) _ _ s
  refine wpAny_bind (wpAny_tryCatch (W.item 0 s _ _ hn hst fun v h' tk hP hst' hk' => ?_))
  have hS' := hk' S _ hSw hS
  show wpAny _ A.in1 (updateSeq S (fun _ => #[v, v]) >>= _) _ _ _
  refine wpAny_bind ?_
  refine wpAny_updateSeq hS' rfl ?_
  rw [hname]
  refine wpAny_pure ⟨plainId_quiet F.plain_max_loop _, maxD_loop W bt hcmp S hSf _ 0 _ v _ rfl hn (W.frame _ _ _ hst' fun b hbf o e => ?_) hP (Heap.get?_update_self _ hS' rfl) fun v' h'' tk'' hP' hk'' => ?_⟩
  · exact (Heap.get?_update_other _ _ (fun h : S = b => hSf (by rw [h]; exact hbf))).trans e
  · exact hR v' h'' tk'' hP' fun b o hbw hbS e => hk'' b o hbw hbS ((Heap.get?_update_other _ _ (Ne.symm hbS)).trans (hk' b o hbw e))
theorem maxD_empty (W : Walks prog w A.in1 I fp wr n P St) (S : Addr) (hSf : S ∉ fp) (hn : n = 0) {s : Shared} {c : Nat} (hst : St 0 s.heap)
    (hS : s.heap.get? S = some { cls := .type "list", dict := none, data := .seq #[] c, slots := #[] })
    (hR : ∀ h' tk, (∀ b o, b ∉ wr → s.heap.get? b = some o → h'.get? b = some o) → R (.ok (.ret d)) { s with heap := h', toks := tk }) :
    codeAny (model prog w) A (.builtin "max.loop" ⟨[.ref I, .none, .ref S], [("default", d)]⟩) R s := by
  subst hn
  refine codeAny_builtin F.entry_max_loop ?_
  rw [Around.under_plainId F.plain_max_loop _]
  show wpAny _ A.in1 (seqItems? (.ref S) >>= _) _ _ s
  refine wpAny_bind (wpAny_seqItems hS rfl ?_)
  show wpAny _ A.in1 (tryCatch (pyNext (.ref I)) _ >>= _) _ _ s
  refine wpAny_bind (wpAny_tryCatch (W.done s _ _ hst fun h' tk hk' => ?_))
  exact wpAny_bind (wpAny_rule (wpAny_pure (hR h' tk hk')))
end
section
variable {prog : Program} {w : World} {A : Around} {E : Value → Shared → Prop} {s : Shared}
theorem argsMaxD (a v : Value) : argsOk "max" ⟨[a], [(Str.ofString "default", v)]⟩ := by unfold argsOk; kernel_rfl
theorem call_maxD {x d : Value} {Q : Value → Shared → Prop}
    (h : wpAny (model prog w) A.in1 (pyIter x) (fun it s₂ => ∃ I fp wr n P St bt, it = .ref I ∧ Walks prog w A.in1 I fp wr n P St ∧ St 0 s₂.heap ∧ (∀ b ∈ fp, b < s₂.heap.objs.size) ∧ CmpOf prog w A.in1 .Gt P bt ∧
      (n = 0 → ∀ h' tk, (∀ b o, b ∉ wr → s₂.heap.get? b = some o → h'.get? b = some o) → Q d { s₂ with heap := h', toks := tk }) ∧
      (0 < n → ∀ v h' tk, P (argBest bt (n - 1)) v → (∀ b o, b ∉ wr → s₂.heap.get? b = some o → h'.get? b = some o) → Q v { s₂ with heap := h', toks := tk })) E s) :
    wpAny (model prog w) A (call (.builtin "max") [x] [(Str.ofString "default", d)]) Q E s := by
  have hname : (toString "max" ++ toString ".loop" : String) = "max.loop" := by decide
  refine kmk_tree F.kind_max F.plain_max F.entry_max (argsMaxD _ _) ?_
  show wpAny _ A.in1 (Builtin.Builtins.bindParams "max" ["key", "default"] 0 ⟨[], [(Str.ofString "default", d)]⟩ >>= _) _ _ s
  refine wpAny_bind (wpAny_of_eq (show Builtin.Builtins.bindParams "max" ["key", "default"] 0 ⟨[], [(Str.ofString "default", d)]⟩ = pure [none, some d] from rfl) ?_)
  refine wpAny_bind (wpAny_pure ?_)
  refine wpAny_bind (wpAny_mono h (fun it s₂ h₂ => ?_) fun _ _ e => e)
  obtain ⟨I, fp, wr, n, P, St, bt, rfl, W, hst, hfp, hcmp, h0, hQ⟩ := h₂
  refine wpAny_bind (wpAny_newObj_type ?_)
  have hSf : s₂.heap.objs.size ∉ fp := fun hm => Nat.lt_irrefl _ (hfp _ hm)
  rw [hname]
  rcases Nat.eq_zero_or_pos n with hn | hn
  · refine wpAny_pure ⟨plainId_quiet F.plain_max_loop _, maxD_empty W s₂.heap.objs.size hSf hn (W.frame _ _ _ hst fun b _ o e => Heap.get?_push_of_some _ e) (Heap.get?_push_size _ rfl) fun h' tk hk => ?_⟩
    exact h0 hn h' tk fun b o hbw e => hk b o hbw (Heap.get?_push_of_some _ e)
  · refine wpAny_pure ⟨plainId_quiet F.plain_max_loop _, maxD_first W bt hcmp s₂.heap.objs.size hSf hn (W.frame _ _ _ hst fun b _ o e => Heap.get?_push_of_some _ e) (Heap.get?_push_size _ rfl) fun v h' tk hP hk => ?_⟩
    exact hQ hn v h' tk hP fun b o hbw e => hk b o hbw (Nat.ne_of_lt (Heap.lt_size e)) (Heap.get?_push_of_some _ e)
end
end PySem
namespace L2
open PySem PySem.Spec PyProof.Rows
def tMaxD (K : PySem.W.Frag) (d : Int) (ta : TE) : TE := fun σ H Q => ta σ H fun x H1 => ∃ p, ∃ ns : List Int, x = .ref p ∧ SqL K H1 p (ns.map V.int) ∧ ∀ M, ((ns = [] ∧ M = d) ∨ (M ∈ ns ∧ ∀ a ∈ ns, a ≤ M)) → Q (.int M) H1
theorem boot_max : bootBuiltins "max" = some (.builtin "max") := by decide +kernel
theorem pe_maxD {X : Cx} {a ed : Expr} {ta : TE} {d : Int} {p pos kpos : Pos} (hc : X.calm = true) (ha : PE X a ta) (hd : PE X ed (tC (.int d))) (hg : Gl X "max" := by rfl) (hm : X.mg "max" = none := by rfl) (hs : starEach [a] X.env = [(false, eval a X.env)] := by rfl) :
    PE X (.Call (.Name "max" p) [a] [⟨some "default", ed, kpos⟩] pos) (tMaxD X.K d ta) := by
  intro pins s σ H Q I h
  refine wpAny_Call_Name_kw (ld_blt I hg hm boot_max ?_)
  refine callWith_kw (id := "max") (thn ((pa_cons ha pa_nil hs : PA X [a] (tCons ta tNil)) pos pins s σ H (only1 fun x H1 => ∃ p, ∃ ns : List Int, x = .ref p ∧ SqL X.K H1 p (ns.map V.int) ∧ ∀ M, ((ns = [] ∧ M = d) ∨ (M ∈ ns ∧ ∀ a ∈ ns, a ≤ M)) → Q (.int M) H1) I h) fun us s1 ⟨vs, H1, I1, r1, q1⟩ => ?_) (by rw [hs]; rfl) (by rw [hs]; rfl)
  obtain ⟨x1, rfl, q1⟩ := only1_of q1
  obtain ⟨u1, rfl, ru⟩ := vals1 r1
  obtain ⟨l, ns, rfl, hp, q⟩ := q1
  cases ru
  show wpAny _ _ (evalAll [(do let v ← eval ed X.env; standAt pos; pure v)]) _ _ s1
  refine wpAny_evalAll_cons (wpAny_bind (thn (hd pins s1 σ H1 (fun v H2 => v = .int d ∧ H2 = H1) I1 ⟨rfl, rfl⟩) fun ud s2 ⟨v2, H2, I2, r2, e1, e2⟩ => wpAny_bind (wpAny_standAt (wpAny_pure (wpAny_evalAll_nil ?_)))))
  subst e1 e2
  obtain ⟨td, rfl⟩ := r2
  show wpAny _ _ (call (.builtin "max") [.ref l] [(Str.ofString "default", .int d td)]) _ _ s2
  obtain ⟨vs, rv, pl, hz⟩ := I2.list hp
  have hl := pl.isList
  have hlt : l < s2.heap.objs.size := by obtain ⟨_, e, _⟩ := hl; exact Heap.lt_size e
  have hlen : vs.length = ns.length := by have := rv.length; simpa using this.symm
  have hval : ∀ i v, vs.toArray[i]? = some v → ∃ t, v = Value.int (ns.getD i 0) t := by
    intro i v e
    have e' : vs[i]? = some v := by simpa using e
    have hi : i < ns.length := by rw [← hlen]; exact (List.getElem?_eq_some_iff.mp e').1
    obtain ⟨u, e2, r2⟩ := rv.get (i := i) (x := .int ns[i]) (by rw [List.getElem?_map, List.getElem?_eq_getElem hi]; rfl)
    rw [e'] at e2
    cases e2
    obtain ⟨t, rfl⟩ := r2
    exact ⟨t, by rw [List.getD_eq_getElem?_getD, List.getElem?_eq_getElem hi]; rfl⟩
  have keep : ∀ (it : Obj) (h' : Heap), (∀ b o, b ∉ [s2.heap.objs.size] → (s2.heap.push it).get? b = some o → h'.get? b = some o) → ∀ b o, s2.heap.get? b = some o → h'.get? b = some o := fun it h' hk b o e2 => hk b o (fun hm => by
    rw [List.mem_singleton.mp hm] at e2
    exact Nat.lt_irrefl _ (Heap.lt_size e2)) (Heap.get?_push_of_some _ e2)
  refine call_maxD (wpAny_pyIter_list hl ?_)
  refine ⟨s2.heap.objs.size, [s2.heap.objs.size, l], [s2.heap.objs.size], _, _, _, _, rfl, Walks.list (A := X.A.in1) (I2.ok.hd hc) _ l (Nat.ne_of_lt hlt) vs.toArray, ⟨⟨_, Heap.get?_push_size _ rfl, rfl, rfl⟩, hl.push _⟩, fun b hb => ?_, CmpOf.ints_gt (fun i => ns.getD i 0) hval, fun hn h' tk hk => ?_, fun hn v h' tk hP hk => ?_⟩
  · show b < (s2.heap.push _).objs.size
    rw [Heap.size_push]
    simp only [List.mem_cons, List.not_mem_nil, or_false] at hb
    rcases hb with rfl | rfl
    · exact Nat.lt_succ_self _
    · exact Nat.lt_succ_of_lt hlt
  · rw [List.size_toArray, hlen] at hn
    exact ⟨.int d, _, I2.kept (t' := tk) (keep _ _ hk), ⟨td, rfl⟩, q d (.inl ⟨List.length_eq_zero_iff.mp hn, rfl⟩)⟩
  · obtain ⟨t, rfl⟩ := hval _ _ hP
    obtain ⟨h1, h2⟩ := argBest_gt (fun i => ns.getD i 0) (vs.toArray.size - 1)
    rw [List.size_toArray, hlen] at h1 h2 hn
    rw [List.size_toArray, hlen]
    refine ⟨.int _, _, I2.kept (t' := tk) (keep _ _ hk), ⟨t, rfl⟩, q _ (.inr ⟨?_, fun a ha => ?_⟩)⟩
    · have hlt : argBest (fun i j => decide (ns.getD i 0 > ns.getD j 0)) (ns.length - 1) < ns.length := by omega
      rw [List.getD_eq_getElem?_getD, List.getElem?_eq_getElem hlt]
      exact List.getElem_mem hlt
    · obtain ⟨j, hj, rfl⟩ := List.getElem_of_mem ha
      have := h2 j (by omega)
      rw [List.getD_eq_getElem?_getD (i := j), List.getElem?_eq_getElem hj] at this
      exact this
end L2
set_option Elab.async false
set_option linter.all false
set_option maxRecDepth 100000
set_option maxHeartbeats 4000000
namespace L2
open PySem PySem.Spec PyProof.Rows
section
variable {X : Cx}
def gGetL : V → V → Hp → VK → Prop := fun o i H Q => ∃ p xs, ∃ k : Nat, ∃ v, o = .ref p ∧ i = .int (k : Int) ∧ H p = some (.lst xs) ∧ xs[k]? = some v ∧ Q v H
theorem get_list : PGet X gGetL := by
  intro pins s σ H o i ov iv Q I ro ri h
  obtain ⟨p, xs, k, v, rfl, rfl, hp, hv, q⟩ := h
  cases (show ov = Value.ref p from ro)
  obtain ⟨t, rfl⟩ := ri
  obtain ⟨its, r, pl, hz⟩ := I.list (SqL.of (K := X.K) hp)
  obtain ⟨w, ew, rw'⟩ := r.get hv
  have hk : k < xs.length := (List.getElem?_eq_some_iff.mp hv).1
  have hn := line63
  exact wpAny_getItem_list pl.isList (Int.natCast_nonneg k) (by omega) (by rw [Int.toNat_natCast]; simpa using ew) ⟨v, H, I, rw', q⟩
def rSetN : V → V → V → Hp → (Hp → Prop) → Prop := fun o i v H Q => ∃ p xs, ∃ k : Nat, o = .ref p ∧ i = .int (k : Int) ∧ H p = some (.lst xs) ∧ k < xs.length ∧ Q (upd H p (.lst (xs.set k v)))
theorem set_listN : PSet X rSetN := by
  intro pins s σ H o i v ov iv u Q I ro ri rv h
  obtain ⟨p, xs, k, e1, e2, hp, hk, q⟩ := h
  refine set_list pins s σ H o i v ov iv u Q I ro ri rv ⟨p, xs, k, k, e1, e2, hp, ?_, q⟩
  unfold ixN
  rw [if_pos (Int.natCast_nonneg k), if_pos (by omega), Int.toNat_natCast]
end
end L2
set_option Elab.async false
set_option linter.all false
set_option maxRecDepth 100000
set_option maxHeartbeats 4000000
namespace L2
open PySem PySem.Spec PyProof.Rows
theorem ps_lc {X : Cx} {scope : Scope} {cl : List (Str × Addr)} {N : List Str} {bs : List (Option Nat)} {tg iter elt : Expr} {ifs : List Expr} {pos spos px : Pos} {x : Str} {wi : TI} {g gt : TG} {tt : TT} {te : TE} (B : Blk X scope cl N bs) (hc : X.calm = true)
    (hi : PI X tg iter wi) (hg : ∀ C fp s H, PG (cxBlk X scope cl C N fp s H) tg g) (ht : ∀ C fp s H, PTs (cxBlk X scope cl C N fp s H) ifs tt) (he : ∀ C fp s H, PE (cxBlk X scope cl C N fp s H) elt te)
    (hgt : PG X (.Name x px) gt) (hsw : swapsWith (.ListComp elt [⟨tg, iter, ifs, 0⟩] scope pos) (some (.Name x px)) spos.line X.env = pure true)
    (hs : ∀ x, foldedSetIterable iter X.env x = pure x := by intro _; rfl) :
    PS X (.Assign [.Name x px] (.ListComp elt [⟨tg, iter, ifs, 0⟩] scope pos) spos) (tAsg (tLC bs wi g tt te) gt) := by
  intro pins s σ H D I h
  rw [exec_Assign_Name_used _ _ _ _ hsw]
  refine wpAny_bind (wpAny_standAt (wpAny_bind ?_))
  show wpAny _ X.A (do let _ ← comprehension (.ListComp elt [⟨tg, iter, ifs, 0⟩] scope pos) scope X.env _ (newList []) false (eval iter X.env) (some (assign (.Name x px) X.env))) _ _ s
  refine wpAny_bind (wpAny_mono (wpAny_comprehension_free (use := some (assign (.Name x px) X.env)) (Q := fun _ s' => ∃ σ' H', Inv X pins σ' H' s' ∧ D.nx σ' H') rfl hs B.clos B.kind B.names (thn (hi pins s σ H _ I h) fun v s1 h1 => thn h1 fun itv s2 h2 => ?_)) (fun _ s' hq => wpAny_pure (wpAny_pure hq)) fun _ _ e => e)
  obtain ⟨it, fp, tn, J, H2, rfl, I2, T, st2, f2, W, ⟨m0, w0⟩, turn⟩ := h2
  refine wpAny_newObj_type (wpAny_newFunctionEnv B.cell (by intro y hy; simp at hy) (fun h₁ hns₁ hsb₁ => ?_) B.kind)
  dsimp only at hns₁ hsb₁ ⊢
  generalize hG : s2.heap.push { cls := .type "list", dict := none, data := .seq ([] : List Value).toArray } = G at hns₁ hsb₁ ⊢
  have hC : G.objs.size = s2.heap.objs.size + 1 := by rw [← hG, Heap.size_push]
  have hDC : s2.heap.objs.size ≠ G.objs.size := by rw [hC]; exact Nat.ne_of_lt (Nat.lt_succ_self _)
  have hCle : s2.heap.objs.size ≤ G.objs.size := by rw [hC]; exact Nat.le_succ _
  have old : ∀ b o, s2.heap.get? b = some o → h₁.get? b = some o := fun b o e => hsb₁.extBut b o (by rw [hC]; exact Nat.ne_of_lt (Nat.lt_succ_of_lt (Heap.lt_size e))) (Heap.get?_push_of_some _ (hG ▸ Heap.get?_push_of_some _ e))
  have hacc : h₁.get? s2.heap.objs.size = some { cls := .type "list", data := .seq ([] : List Value).toArray 0 } := hsb₁.extBut _ _ hDC (Heap.get?_push_of_some _ (hG ▸ Heap.get?_push_size _ rfl))
  have stat : ∀ {D : Addr} {o : Obj} {H' : Hp}, s2.heap.objs.size ≤ D → (∀ b ∈ fp, H' b = none) → ∀ b ∈ fp, FpOk (cxBlk X scope cl G.objs.size N fp s2 H2) [(D, o)] H' b := fun {D o H'} hD hn b hb => by
    obtain ⟨ob, eb, _⟩ := T.obj _ _ st2 b hb
    obtain ⟨_, f1, f3, f4, f5, _⟩ := f2 b hb
    have ok := B.ok I2 f2 (T.obj _ _ st2) (C := G.objs.size) hCle
    refine ⟨hn b hb, (ok.exf b hb).1, ok.exfs b hb, .inl hb, (ok.exf b hb).2, fun p hp => ?_⟩
    have e : p = (D, o) := by simpa [cxBlk] using hp
    subst e
    exact Nat.ne_of_gt (Nat.lt_of_lt_of_le (Heap.lt_size eb) hD)
  have loop : ∀ s₃ : Shared, s₃ = { s2 with heap := h₁, toks := s2.toks + ([] : List (Str × Value)).length } →
      codeAny (model X.prog X.w) X.A (.compLoop (.ListComp elt [⟨tg, iter, ifs, 0⟩] scope pos) 0 (.ref it) (.ref s2.heap.objs.size) (compEnvC scope cl G.objs.size X.env))
        (compPost (model X.prog X.w) X.A X.xe (some (assign (.Name x px) X.env)) (fun _ s' => ∃ σ' H', Inv X pins σ' H' s' ∧ D.nx σ' H') (.ref s2.heap.objs.size) G.objs.size) s₃ := by
    rintro s₃ rfl
    refine codeAny_compLoop_go (fun n s' => ∃ i ys its k σ' H', Inv (cxBlk X scope cl G.objs.size N fp s2 H2) [(s2.heap.objs.size, { cls := .type "list", data := .seq (List.toArray its) k })] σ' H' s' ∧ Vals ys its ∧ tn i s'.heap ∧ (∀ b ∈ fp, H' b = none) ∧ W i n ys σ' H') ?_ m0
      ⟨0, [], [], 0, bst bs σ, H2, B.inv I2 f2 (T.obj _ _ st2) hCle old hns₁ hacc (Nat.le_refl _) hDC (fun v z => nomatch z), .nil, T.keep _ _ _ st2 fun b _ o e => old b o e, fun b hb => (f2 b hb).1, w0⟩
    rintro n s3 ⟨i, ys, its, k, σ3, H3, I3, rv, st3, fr3, w3⟩
    have pD := I3.pin _ (List.mem_append_right _ (.head _))
    rcases turn i n ys σ3 H3 w3 with ⟨stop, hz, qn⟩ | ⟨go, hz, NN, hNN, step⟩
    · refine thn (T.done (cxBlk X scope cl G.objs.size N fp s2 H2) rfl rfl rfl hc i _ s3 σ3 H3 (fun _ _ => False) I3 (stat (Nat.le_refl _) fr3) st3 stop) fun r s4 ⟨hr, I4⟩ => ?_
      subst hr
      have pD4 := I4.pin _ (List.mem_append_right _ (.head _))
      obtain ⟨m4, hn4, _⟩ := I4.loc
      have hD5 : s4.heap.get? s2.heap.objs.size = some { cls := .type "list", data := .seq (List.toArray its) k } := pD4.1
      have k5 : ∀ b o, b ≠ G.objs.size → s4.heap.get? b = some o → s4.heap.get? b = some o := fun b o hb e => e
      have hC4 : H3 G.objs.size = none := I4.free
      have hok4 : HOk X.prog X.w H3 s4.heap := I4.hok
      have hok5 : HOk X.prog X.w (upd H3 s2.heap.objs.size (.lst ys)) s4.heap := fun b u e => by
        by_cases hb : b = s2.heap.objs.size
        · subst hb
          rw [upd_same] at e
          cases e
          exact ⟨hz, its, k, rv, hD5⟩
        · rw [upd_ne hb] at e
          have nC : ∀ c u', H3 c = some u' → c ≠ G.objs.size := fun c u' q z => by rw [z, hC4] at q; cases q
          have nD : ∀ c u', H3 c = some u' → c ≠ s2.heap.objs.size := fun c u' q z => by rw [z, pD4.2.1] at q; cases q
          refine (hok4 b u e).stay (fun c v hc' q => k5 c v ?_ q) (fun c q => by rw [upd_ne (nD c _ q)]; exact q) fun c xs q => by rw [upd_ne (nD c _ q)]; exact q
          rcases hc' with z | z
          · rw [z]; exact nC b u e
          · exact nC c _ z
      have un4 : Un (frs X.stack) fp H2 H3 s2.heap s4.heap := I4.base
      have neC : ∀ b o, s2.heap.get? b = some o → b ≠ G.objs.size := fun b o e => Nat.ne_of_lt (Nat.lt_of_lt_of_le (Heap.lt_size e) hCle)
      have neD : ∀ b o, s2.heap.get? b = some o → b ≠ s2.heap.objs.size := fun b o e => Nat.ne_of_lt (Heap.lt_size e)
      have un5 : Un (frs X.stack) fp H2 (upd H3 s2.heap.objs.size (.lst ys)) s2.heap s4.heap := {
        keep := fun b o e n hb hx => k5 b o (neC b o e) (un4.keep b o e n hb hx)
        slot := fun b o e n hb hx => let ⟨sl, q⟩ := un4.slot b o e n hb hx; ⟨sl, k5 b _ (neC b o e) q⟩
        free := fun b o e n hx => by rw [upd_ne (neD b o e)]; exact un4.free b o e n hx
        there := fun b o e hx => let ⟨o', q⟩ := un4.there b o e hx; ⟨o', k5 b _ (neC b o e) q⟩
        tups := fun b xs e => by rw [upd_ne (ne_of_none e (I2.hok.fresh (Nat.le_refl _)))]; exact un4.tups b xs e
        frzs := fun b o u e => by rw [upd_ne (ne_of_none e (I2.hok.fresh (Nat.le_refl _)))]; exact un4.frzs b o u e
        tbls := fun b ps e => by rw [upd_ne (ne_of_none e (I2.hok.fresh (Nat.le_refl _)))]; exact un4.tbls b ps e }
      have IE : Inv X pins σ (upd H3 s2.heap.objs.size (.lst ys)) s4 := I2.call' (s' := s4) ((show s4.os = s2.os from I4.os)) un5 hok5 I4.bare (fun b hb => by
        obtain ⟨_, f1, f3, f4, f5, f6⟩ := f2 b hb
        exact ⟨f4, f1, f5, f6⟩)
      have hnC : (upd H3 s2.heap.objs.size (.lst ys)) G.objs.size = none := by rw [upd_ne (Ne.symm hDC)]; exact hC4
      obtain ⟨_, c1, c2, c3, c4, c5⟩ : FpOk X pins (upd H3 s2.heap.objs.size (.lst ys)) G.objs.size := I2.fpOk hCle hnC
      obtain ⟨oC, es4, ep4, hoC, rC⟩ := hn4
      have IP : Inv X (pins ++ [(G.objs.size, oC)]) σ (upd H3 s2.heap.objs.size (.lst ys)) s4 := IE.pins_of fun p hp => by
        rcases List.mem_append.mp hp with z | z
        · exact IE.pin p (List.mem_append_right _ z)
        · rw [List.mem_singleton.mp z]
          exact ⟨hoC, hnC, c1, c2, fun v z => by rw [rC.1] at z; cases z⟩
      refine thn (hgt (pins ++ [(G.objs.size, oC)]) s4 σ _ (.ref s2.heap.objs.size) (.ref s2.heap.objs.size) _ IP rfl (qn _ pD4.2.1)) fun _ s6 ⟨σ6, H6, I6, q6⟩ => ?_
      have pC := I6.pin (G.objs.size, oC) (List.mem_append_right _ (List.mem_append_right _ (.head _)))
      refine ⟨m4, ⟨oC, es4, ep4, pC.1, rC⟩, fun h7 sb7 => ⟨σ6, H6, (I6.unpinned).turned (it := G.objs.size) (t' := s6.toks) (fun b o hb e => sb7.extBut b o hb e) pC.2.1 c1 c3 c4 c5, q6⟩⟩
    · refine thn (T.item (cxBlk X scope cl G.objs.size N fp s2 H2) rfl rfl rfl hc i _ s3 σ3 H3 (fun _ _ => False) I3 (stat (Nat.le_refl _) fr3) st3 go) fun r s4 ⟨u, hr, h4⟩ => ?_
      subst hr
      refine thn h4 fun _ s5 ⟨x, H5, I5, r5, y5, st5, fr5⟩ => ?_
      have I5' := I5.pinned (stat (Nat.le_refl _) fr5) (T.obj _ _ st5)
      refine thn (hg _ _ _ _ _ s5 σ3 H5 x u _ I5' r5 (step x H5 y5)) fun _ s6 ⟨σ6, H6, I6, q6⟩ => ?_
      refine thn (ht _ _ _ _ _ s6 σ6 H6 _ I6 q6) fun ok s7 ⟨H7, I7, q7⟩ => ?_
      have back : ∀ {σ8 : St} {H8 : Hp} {s8 : Shared} {pl : List (Addr × Obj)}, Inv (cxBlk X scope cl G.objs.size N fp s2 H2) (pl ++ pinsAt fp s5.heap) σ8 H8 s8 → tn (i + 1) s8.heap ∧ ∀ b ∈ fp, H8 b = none := fun {σ8 H8 s8 pl} I8 =>
        ⟨T.keep _ _ _ st5 fun b hb o e => (I8.pin (b, o) (List.mem_append_right _ (List.mem_append_right _ (mem_pinsAt hb e)))).1, fun b hb => by
          obtain ⟨o, e, d⟩ := T.obj _ _ st5 b hb
          exact (I8.pin (b, o) (List.mem_append_right _ (List.mem_append_right _ (mem_pinsAt hb e)))).2.1⟩
      cases ok with
      | false =>
        rw [if_neg Bool.false_ne_true] at q7 ⊢
        obtain ⟨m', hm, w7⟩ := hNN _ _ _ q7
        exact ⟨m', hm, i + 1, ys, its, k, σ6, H7, I7.unpinned, rv, (back I7).1, (back I7).2, w7⟩
      | true =>
        rw [if_pos rfl] at q7 ⊢
        refine thn (he _ _ _ _ _ s7 σ6 H7 _ I7 q7) fun y s8 ⟨v8, H8, I8, r8, q8⟩ => ?_
        obtain ⟨m', hm, w8⟩ := hNN _ _ _ q8
        have pD8 := I8.pin _ (List.mem_append_right _ (List.mem_append_left _ (.head _)))
        have hl := rv.length
        refine wpAny_list_append_plain ⟨k, pD8.1⟩ (fun h9 pl9 sb9 => ?_) (by rw [List.size_toArray]; omega)
        obtain ⟨k9, e9⟩ := pl9
        have e9' : h9.get? s2.heap.objs.size = some { cls := .type "list", data := .seq (List.toArray (its ++ [y])) k9 } := by rw [e9]; simp
        have I8' : Inv (cxBlk X scope cl G.objs.size N fp s2 H2) (pinsAt fp s5.heap) σ6 H8 s8 := I8.pins_of fun p hp => I8.pin p (List.mem_append_right _ (List.mem_append_right _ hp))
        have I9 : Inv (cxBlk X scope cl G.objs.size N fp s2 H2) (pinsAt fp s5.heap) σ6 H8 { s8 with heap := h9 } := I8'.turned (it := s2.heap.objs.size) (t' := s8.toks) (fun b o hb e => sb9.extBut b o hb e) pD8.2.1 pD8.2.2.1 (.inr (Nat.le_refl _))
          (fun x c e z => by
            obtain ⟨vc, oc, hoc, hd⟩ := I8.cell x c e
            rw [z, pD8.1] at hoc
            cases hoc
            cases hd)
          fun p hp z => by
            have hp' : p ∈ pinsAt fp s5.heap := by simpa [cxBlk] using hp
            obtain ⟨q1, q2⟩ := of_pinsAt hp'
            obtain ⟨ob, eb, _⟩ := T.obj _ _ st2 p.1 q1
            exact Nat.lt_irrefl _ (by have := Heap.lt_size eb; rw [z] at this; exact this)
        have hk9 : ∀ b ∈ fp, ∀ o, s8.heap.get? b = some o → h9.get? b = some o := fun b hb o e => sb9.extBut b o (fun z => by
          obtain ⟨ob, eb, _⟩ := T.obj _ _ st2 b hb
          exact Nat.lt_irrefl _ (by have := Heap.lt_size eb; rw [z] at this; exact this)) e
        refine ⟨m', hm, i + 1, ys ++ [v8], its ++ [y], k9, σ6, H8, I9.pins_of fun p hp => ?_, rv.append (.cons r8 .nil), T.keep _ _ _ (back I8).1 hk9, (back I8).2, w8⟩
        have e : p = (s2.heap.objs.size, { cls := .type "list", data := .seq (List.toArray (its ++ [y])) k9 }) := by simpa using hp
        subst e
        exact ⟨e9', pD8.2.1, pD8.2.2.1, pD8.2.2.2.1, fun v z => nomatch z⟩
  exact codeAny_compStart_list (loop _ rfl) (T.self _ 0 _ _ _ (T.keep _ _ _ st2 fun b _ o e => old b o e) (loop _ rfl))
theorem ps_lcR {X : Cx} {scope : Scope} {cl : List (Str × Addr)} {N : List Str} {bs : List (Option Nat)} {tg a elt : Expr} {ifs : List Expr} {p pos' pos spos px : Pos} {x : Str} {ta : TA} {g gt : TG} {tt : TT} {te : TE} (B : Blk X scope cl N bs) (hc : X.calm = true)
    (hgl : Gl X "range") (hmr : X.mg "range" = none) (ha : PA X [a] ta) (hm : MonoA ta) (hpl : plainE a = true) (hg : ∀ C fp s H, PG (cxBlk X scope cl C N fp s H) tg g) (ht : ∀ C fp s H, PTs (cxBlk X scope cl C N fp s H) ifs tt) (he : ∀ C fp s H, PE (cxBlk X scope cl C N fp s H) elt te)
    (hgt : PG X (.Name x px) gt) (hsw : swapsWith (.ListComp elt [⟨tg, .Call (.Name "range" p) [a] [] pos', ifs, 0⟩] scope pos) (some (.Name x px)) spos.line X.env = pure true)
    (hs : ∀ x, foldedSetIterable (.Call (.Name "range" p) [a] [] pos') X.env x = pure x := by intro _; rfl) : PS X (.Assign [.Name x px] (.ListComp elt [⟨tg, .Call (.Name "range" p) [a] [] pos', ifs, 0⟩] scope pos) spos) (tAsg (tLCR bs ta g tt te) gt) := by
  intro pins s σ H D I h
  refine @ps_lc X scope cl N bs tg _ elt ifs pos spos px x (iRng1 ta) g gt tt te B hc (@pi_range1 X tg a ta p pos' hgl hmr ha (star_cons hpl)) hg ht he hgt hsw hs pins s σ H D I ?_
  refine hm σ H _ _ (fun vs H1 h => ?_) h
  obtain ⟨n, e, hz, Pv, p0, pl, ps, pd⟩ := h
  refine ⟨(n : Int), e, by omega, by omega, ?_⟩
  rw [Int.toNat_natCast]
  exact lc_range (Q := fun x H1 => gt x σ H1 D.nx) Pv (leMil hz) p0 pl ps fun ys σ H hp p hpn => pd ys σ H hp p _ (same_add hpn) upd_same
end L2
set_option Elab.async false
set_option linter.all false
set_option maxRecDepth 100000
set_option maxHeartbeats 4000000
namespace L2
open PySem PySem.Spec PyProof.Rows
section
variable {X : Cx}
theorem op_fdivL : OpR X (binaryOp .FloorDiv) (rI (fun _ j => 0 < j ∧ j < 4611686018427387904) fun i j => .int (i / j)) := opI fun i j _ _ _ _ _ hc q => by
  have h1 : (0 : Int) < j := hc.1
  have h2 : j < 4611686018427387904 := hc.2
  refine floordiv_int (by omega) (by rw [Int.fdiv_eq_ediv_of_nonneg i (by omega)]; exact q) (.inl (PyProof.noPylong_of_log2 ?_))
  have h3 : j.natAbs < 2 ^ 62 := by omega
  have h4 : j.natAbs ≠ 0 := by omega
  exact Nat.lt_trans ((Nat.log2_lt h4).mpr h3) (by decide)
end
end L2
set_option Elab.async false
set_option linter.all false
set_option maxRecDepth 100000
set_option maxHeartbeats 4000000
set_option Elab.async false
set_option linter.all false
set_option maxRecDepth 100000
set_option maxHeartbeats 4000000
set_option Elab.async false
set_option linter.all false
set_option maxRecDepth 100000
set_option maxHeartbeats 4000000
namespace L2
open PySem PySem.Spec PyProof.Rows PySem.SeqAt
def Atom : V → Prop
  | .non => True
  | .bl _ => True
  | .int _ => True
  | .str _ => True
  | _ => False
def Sam (K : PySem.W.Frag) (H : Hp) : Nat → V → V → Prop
  | 0, x, y => x = y ∧ Atom x
  | d + 1, x, y => (x = y ∧ Atom x) ∨ ∃ a b xs ys, x = .ref a ∧ y = .ref b ∧ ((SqT K H a xs ∧ SqT K H b ys) ∨ (SqL K H a xs ∧ SqL K H b ys)) ∧ xs.length = ys.length ∧ ∀ (i : Nat) u v, xs[i]? = some u → ys[i]? = some v → Sam K H d u v
section
variable {X : Cx}
theorem atom_eq {A : Around} {s : Shared} {x : V} {u v : Value} (h : Atom x) (ru : RelV x u) (rv : RelV x v) : EqAt A s u v true := by
  cases x with
  | non => cases (show u = Value.none from ru); cases (show v = Value.none from rv); exact EqAt.same _
  | bl b => cases (show u = Value.bool b from ru); cases (show v = Value.bool b from rv); exact EqAt.same _
  | int i =>
    obtain ⟨t, rfl⟩ := ru
    obtain ⟨t', rfl⟩ := rv
    have e := EqAt.int_int (A := A) (s := s) i t i t'
    rw [beq_self_eq_true] at e
    exact e
  | str i =>
    obtain ⟨t, rfl⟩ := ru
    obtain ⟨t', rfl⟩ := rv
    have e := (eqGives_str i i t t').at A s
    rw [beq_self_eq_true] at e
    exact e
  | _ => exact h.elim
theorem all_true (n : Nat) : (List.range n).all (fun _ => true) = true := by simp
theorem sam_eq {pins : List (Addr × Obj)} {σ : St} {H : Hp} {s : Shared} (I : Inv X pins σ H s) : ∀ (d : Nat) (A : Around) (x y : V) (u v : Value), A.units + d < cLine → Sam X.K H d x y → RelV x u → RelV y v → EqAt A s u v true
  | 0, A, x, y, u, v, hu, h, ru, rv => by
    obtain ⟨rfl, h⟩ := h
    exact atom_eq h ru rv
  | d + 1, A, x, y, u, v, hu, h, ru, rv => by
    rcases h with ⟨rfl, h⟩ | ⟨a, b, xs, ys, rfl, rfl, h, hl, hk⟩
    · exact atom_eq h ru rv
    cases (show u = Value.ref a from ru)
    cases (show v = Value.ref b from rv)
    by_cases hab : a = b
    · subst hab
      exact EqAt.same _
    refine EqAt.of_refs hab ?_
    rcases h with ⟨ha, hb⟩ | ⟨ha, hb⟩
    · obtain ⟨vs, rvs, pa, _⟩ := I.tuple ha
      obtain ⟨ws, rws, pb, _⟩ := I.tuple hb
      have l1 := rvs.length
      have l2 := rws.length
      have e := RcAt.tuples (A := A) (s := s) (e := fun _ => true) pa pb (by omega) (fun j h1 h2 => ?_)
      · rw [all_true] at e
        have : (vs.toArray.size == ws.toArray.size) = true := by simp; omega
        rw [this] at e
        exact e
      · simp only [List.size_toArray] at h1 h2
        obtain ⟨x1, e1, r1⟩ := rvs.get (List.getElem?_eq_getElem (l := xs) (i := j) (by omega))
        obtain ⟨y1, e2, r2⟩ := rws.get (List.getElem?_eq_getElem (l := ys) (i := j) (by omega))
        have g1 : vs[j] = x1 := by rw [List.getElem?_eq_getElem h1] at e1; exact Option.some.inj e1
        have g2 : ws[j] = y1 := by rw [List.getElem?_eq_getElem h2] at e2; exact Option.some.inj e2
        have g := sam_eq I d A.in1 _ _ x1 y1 (by show A.units + 1 + d < cLine; omega) (hk j _ _ (List.getElem?_eq_getElem (by omega)) (List.getElem?_eq_getElem (by omega))) r1 r2
        simp only [List.getElem_toArray, g1, g2]
        exact g
    · obtain ⟨vs, rvs, pa, _⟩ := I.list ha
      obtain ⟨ws, rws, pb, _⟩ := I.list hb
      have l1 := rvs.length
      have l2 := rws.length
      have e := RcAt.lists (A := A) (s := s) (e := fun _ => true) pa.isList pb.isList (by simp; omega) (by omega) (fun j h1 h2 => ?_)
      · rw [all_true] at e
        exact e
      · simp only [List.size_toArray] at h1 h2
        obtain ⟨x1, e1, r1⟩ := rvs.get (List.getElem?_eq_getElem (l := xs) (i := j) (by omega))
        obtain ⟨y1, e2, r2⟩ := rws.get (List.getElem?_eq_getElem (l := ys) (i := j) (by omega))
        have g1 : vs[j] = x1 := by rw [List.getElem?_eq_getElem h1] at e1; exact Option.some.inj e1
        have g2 : ws[j] = y1 := by rw [List.getElem?_eq_getElem h2] at e2; exact Option.some.inj e2
        have g := sam_eq I d A.in1 _ _ x1 y1 (by show A.units + 1 + d < cLine; omega) (hk j _ _ (List.getElem?_eq_getElem (by omega)) (List.getElem?_eq_getElem (by omega))) r1 r2
        simp only [List.getElem_toArray, g1, g2]
        exact g
def rNeD (K : PySem.W.Frag) (b : Bool) : R2 := fun x y H Q => ∃ (p q : Addr) (xs ys : List V), x = .ref p ∧ y = .ref q ∧ ((SqT K H p xs ∧ SqT K H q ys) ∨ (SqL K H p xs ∧ SqL K H q ys)) ∧ xs.length = ys.length ∧ (∀ (i : Nat) u v, xs[i]? = some u → ys[i]? = some v → Sam K H 6 u v) ∧ Q (.bl b) H
theorem sam_items {pins : List (Addr × Obj)} {σ : St} {H : Hp} {s : Shared} (I : Inv X pins σ H s) {A : Around} (hu : A.units + 7 < cLine) {xs ys : List V} {vs ws : List Value} (rvs : Vals xs vs) (rws : Vals ys ws) (hl : xs.length = ys.length)
    (hk : ∀ (i : Nat) u v, xs[i]? = some u → ys[i]? = some v → Sam X.K H 6 u v) (j : Nat) (h1 : j < vs.toArray.size) (h2 : j < ws.toArray.size) : EqAt A.in1 s vs.toArray[j] ws.toArray[j] true := by
  have l1 := rvs.length
  have l2 := rws.length
  simp only [List.size_toArray] at h1 h2
  obtain ⟨x1, e1, r1⟩ := rvs.get (List.getElem?_eq_getElem (l := xs) (i := j) (by omega))
  obtain ⟨y1, e2, r2⟩ := rws.get (List.getElem?_eq_getElem (l := ys) (i := j) (by omega))
  have g1 : vs[j] = x1 := by rw [List.getElem?_eq_getElem h1] at e1; exact Option.some.inj e1
  have g2 : ws[j] = y1 := by rw [List.getElem?_eq_getElem h2] at e2; exact Option.some.inj e2
  have g := sam_eq I 6 A.in1 _ _ x1 y1 (by show A.units + 1 + 6 < cLine; omega) (hk j _ _ (List.getElem?_eq_getElem (by omega)) (List.getElem?_eq_getElem (by omega))) r1 r2
  simp only [List.getElem_toArray, g1, g2]
  exact g
theorem op_neD {k : Nat} (hr : Room k X.A) : OpR X (compareOp .NotEq) (rNeD X.K false) := by
  intro pins s σ H x y v u Q I rx ry h
  obtain ⟨p, q, xs, ys, rfl, rfl, h, hl, hk, hq⟩ := h
  cases (show v = Value.ref p from rx)
  cases (show u = Value.ref q from ry)
  have hun := hr.un
  show wpAny _ _ (richCompare .NotEq (.ref p) (.ref q)) _ _ s
  rcases h with ⟨ha, hb⟩ | ⟨ha, hb⟩
  · obtain ⟨vs, rvs, pa, _⟩ := I.tuple ha
    obtain ⟨ws, rws, pb, _⟩ := I.tuple hb
    have l1 := rvs.length
    have l2 := rws.length
    refine RcNeAt.tuples (A := X.A) (s := s) (e := fun _ => true) pa pb (by omega) (sam_items I (by omega) rvs rws hl hk) _ _ _ _ ?_
    have e2 : (vs.toArray.size == ws.toArray.size) = true := by simp; omega
    rw [all_true, e2]
    exact ⟨.bl _, H, I, rfl, hq⟩
  · obtain ⟨vs, rvs, pa, _⟩ := I.list ha
    obtain ⟨ws, rws, pb, _⟩ := I.list hb
    have l1 := rvs.length
    have l2 := rws.length
    refine RcNeAt.lists (A := X.A) (s := s) (e := fun _ => true) pa.isList pb.isList (by simp; omega) (by omega) (sam_items I (by omega) rvs rws hl hk) _ _ _ _ ?_
    rw [all_true]
    exact ⟨.bl _, H, I, rfl, hq⟩
theorem op_eqD {k : Nat} (hr : Room k X.A) : OpR X (compareOp .Eq) (rNeD X.K true) := by
  intro pins s σ H x y v u Q I rx ry h
  obtain ⟨p, q, xs, ys, rfl, rfl, h, hl, hk, hq⟩ := h
  cases (show v = Value.ref p from rx)
  cases (show u = Value.ref q from ry)
  have hun := hr.un
  show wpAny _ _ (richCompare .Eq (.ref p) (.ref q)) _ _ s
  rcases h with ⟨ha, hb⟩ | ⟨ha, hb⟩
  · obtain ⟨vs, rvs, pa, _⟩ := I.tuple ha
    obtain ⟨ws, rws, pb, _⟩ := I.tuple hb
    have l1 := rvs.length
    have l2 := rws.length
    refine RcAt.tuples (A := X.A) (s := s) (e := fun _ => true) pa pb (by omega) (sam_items I (by omega) rvs rws hl hk) _ _ _ _ ?_
    have e2 : (vs.toArray.size == ws.toArray.size) = true := by simp; omega
    rw [all_true, e2]
    exact ⟨.bl _, H, I, rfl, hq⟩
  · obtain ⟨vs, rvs, pa, _⟩ := I.list ha
    obtain ⟨ws, rws, pb, _⟩ := I.list hb
    have l1 := rvs.length
    have l2 := rws.length
    refine RcAt.lists (A := X.A) (s := s) (e := fun _ => true) pa.isList pb.isList (by simp; omega) (by omega) (sam_items I (by omega) rvs rws hl hk) _ _ _ _ ?_
    rw [all_true]
    exact ⟨.bl _, H, I, rfl, hq⟩
end
end L2
set_option Elab.async false
set_option linter.all false
set_option maxRecDepth 100000
namespace L2
open PySem PySem.Spec PyProof.Rows
section
variable {κ : Type} [DecidableEq κ]
def valV (kvs : List (κ × V)) (k : κ) : Option V := (kvs.find? fun kv => decide (kv.1 = k)).map (·.2)
def putK (kvs : List (κ × V)) (k : κ) (v : V) : List (κ × V) :=
  if (kvs.any fun kv => decide (kv.1 = k)) = true then kvs.map (fun kv => if kv.1 = k then (kv.1, v) else kv) else kvs ++ [(k, v)]
theorem valV_pos {p : κ × V} {r : List (κ × V)} {k : κ} (e : p.1 = k) : valV (p :: r) k = some p.2 := by simp [valV, List.find?_cons, e]
theorem valV_neg {p : κ × V} {r : List (κ × V)} {k : κ} (e : ¬ p.1 = k) : valV (p :: r) k = valV r k := by simp [valV, List.find?_cons, e]
theorem valV_any (k : κ) : ∀ kvs : List (κ × V), (kvs.any fun kv => decide (kv.1 = k)) = (valV kvs k).isSome
  | [] => rfl
  | p :: r => by
    rw [List.any_cons]
    by_cases e : p.1 = k
    · simp only [valV_pos e, decide_eq_true e, Bool.true_or, Option.isSome_some]
    · rw [valV_neg e, decide_eq_false e, Bool.false_or]; exact valV_any k r
theorem valV_map (k j : κ) (y : V) : ∀ kvs : List (κ × V), valV (kvs.map fun kv => if kv.1 = k then (kv.1, y) else kv) j = (valV kvs j).map fun x => if j = k then y else x
  | [] => rfl
  | p :: r => by
    have ih := valV_map k j y r
    rw [List.map_cons]
    by_cases h : p.1 = k
    · rw [if_pos h]
      by_cases e : p.1 = j
      · rw [valV_pos (p := (p.1, y)) e, valV_pos e, Option.map_some, if_pos (e.symm.trans h)]
      · rw [valV_neg (p := (p.1, y)) e, valV_neg e, ih]
    · rw [if_neg h]
      by_cases e : p.1 = j
      · rw [valV_pos (p := p) e, valV_pos e, Option.map_some, if_neg (fun z => h (e.trans z))]
      · rw [valV_neg (p := p) e, valV_neg e, ih]
theorem valV_snoc (k j : κ) (y : V) : ∀ kvs : List (κ × V), valV kvs k = none → valV (kvs ++ [(k, y)]) j = if j = k then some y else valV kvs j
  | [], _ => by
    by_cases e : k = j
    · rw [if_pos e.symm]; exact valV_pos (p := (k, y)) e
    · rw [if_neg (fun z => e z.symm)]; exact valV_neg (p := (k, y)) e
  | p :: r, hn => by
    rw [List.cons_append]
    have hk : ¬ p.1 = k := fun z => by rw [valV_pos z] at hn; cases hn
    rw [valV_neg hk] at hn
    have ih := valV_snoc k j y r hn
    by_cases e : p.1 = j
    · rw [valV_pos e, valV_pos e, if_neg (fun z => hk (e.trans z))]
    · rw [valV_neg e, valV_neg e, ih]
theorem valV_put (kvs : List (κ × V)) (k j : κ) (y : V) : valV (putK kvs k y) j = if j = k then some y else valV kvs j := by
  unfold putK
  by_cases a : (kvs.any fun kv => decide (kv.1 = k)) = true
  · rw [if_pos a, valV_map]
    rw [valV_any] at a
    by_cases e : j = k
    · obtain ⟨x, hx⟩ := Option.isSome_iff_exists.mp a
      rw [if_pos e, e, hx, Option.map_some, if_pos rfl]
    · rw [if_neg e]
      cases valV kvs j with
      | none => rfl
      | some x => rw [Option.map_some, if_neg e]
  · rw [if_neg a]
    refine valV_snoc k j y kvs ?_
    rw [valV_any] at a
    cases q : valV kvs k with
    | none => rfl
    | some x => rw [q] at a; exact (a rfl).elim
theorem length_putK (kvs : List (κ × V)) (k : κ) (v : V) : (putK kvs k v).length ≤ kvs.length + 1 := by
  unfold putK
  split
  · rw [List.length_map]; omega
  · rw [List.length_append, List.length_cons, List.length_nil]; omega
theorem putK_new {kvs : List (κ × V)} {k : κ} (v : V) (h : valV kvs k = none) : putK kvs k v = kvs ++ [(k, v)] := by
  unfold putK
  rw [valV_any, h]
  exact if_neg (by decide)
theorem RelO.isSome_eq {o : Option V} {u : Option Value} (r : RelO o u) : o.isSome = u.isSome := by
  cases o with
  | none => cases u with
    | none => rfl
    | some _ => exact (show False from r).elim
  | some _ => cases u with
    | none => exact (show False from r).elim
    | some _ => rfl
theorem RelO.getD {o : Option V} {u : Option Value} {d : V} {d' : Value} (r : RelO o u) (rd : RelV d d') : RelV (o.getD d) (u.getD d') := by
  cases o with
  | none => cases u with
    | none => exact rd
    | some _ => exact (show False from r).elim
  | some _ => cases u with
    | none => exact (show False from r).elim
    | some _ => exact r
theorem KV.val {kvs : List (κ × V)} {vs : List (κ × Value)} (r : KV kvs vs) (k : κ) : RelO (valV kvs k) (valueAt vs k) := by
  unfold KV at r
  induction r with
  | nil => exact True.intro
  | @cons p q ps qs h t ih =>
    obtain ⟨h1, h2⟩ := h
    by_cases e : p.1 = k
    · have e' : q.1 = k := h1.symm.trans e
      have b : valueAt (q :: qs) k = some q.2 := by simp [valueAt, List.find?_cons, e']
      rw [valV_pos e, b]; exact h2
    · have e' : ¬ q.1 = k := fun z => e (h1.trans z)
      have b : valueAt (q :: qs) k = valueAt qs k := by simp [valueAt, List.find?_cons, e']
      rw [valV_neg e, b]; exact ih
theorem KV.any {kvs : List (κ × V)} {vs : List (κ × Value)} (r : KV kvs vs) (k : κ) : (kvs.any fun kv => decide (kv.1 = k)) = vs.any fun kv => decide (kv.1 = k) := by
  unfold KV at r
  induction r with
  | nil => rfl
  | cons h t ih => rw [List.any_cons, List.any_cons, ih, h.1]
theorem KV.repl {kvs : List (κ × V)} {vs : List (κ × Value)} (r : KV kvs vs) (k : κ) {y : V} {u : Value} (ry : RelV y u) :
    KV (kvs.map fun kv => if kv.1 = k then (kv.1, y) else kv) (vs.map fun kv => if kv.1 = k then (kv.1, u) else kv) := by
  unfold KV at r ⊢
  induction r with
  | nil => exact .nil
  | @cons p q ps qs h t ih =>
    rw [List.map_cons, List.map_cons]
    refine .cons ?_ ih
    obtain ⟨h1, h2⟩ := h
    by_cases e : p.1 = k
    · rw [if_pos e, if_pos (h1.symm.trans e)]; exact ⟨h1, ry⟩
    · rw [if_neg e, if_neg (fun z => e (h1.trans z))]; exact ⟨h1, h2⟩
theorem KV.put {kvs : List (κ × V)} {vs : List (κ × Value)} (r : KV kvs vs) (k : κ) {y : V} {u : Value} (ry : RelV y u) : KV (putK kvs k y) (stored vs k u) := by
  unfold putK stored
  rw [r.any k]
  by_cases e : (vs.any fun kv => decide (kv.1 = k)) = true
  · rw [if_pos e, if_pos e]; exact r.repl k ry
  · rw [if_neg e, if_neg e]; exact Paired.snoc r ⟨rfl, ry⟩
theorem KV.keys {kvs : List (κ × V)} {vs : List (κ × Value)} (r : KV kvs vs) : kvs.map (·.1) = vs.map (·.1) := by
  unfold KV at r
  induction r with
  | nil => rfl
  | cons h t ih => rw [List.map_cons, List.map_cons, ih, h.1]
theorem KV.length {kvs : List (κ × V)} {vs : List (κ × Value)} (r : KV kvs vs) : kvs.length = vs.length := Paired.length r
end
theorem kV_is {P : Program} {w : World} {k : Key} {u : Value} (r : RelV (kV k) u) : (mixKind P w).is k u = true := by
  cases k with
  | inl i => obtain ⟨t, e⟩ := (show ∃ t, u = Value.int i t from r); subst e; exact mixKind_int P w i t
  | inr x => obtain ⟨t, e⟩ := (show ∃ t, u = Value.str x t from r); subst e; exact mixKind_str P w x t
theorem items_are {P : Program} {w : World} : ∀ {ks : List Key} {us : List Value}, Vals (ks.map kV) us → ItemsAre (mixKind P w) ks us
  | [], _, r => by rw [List.map_nil] at r; cases r; exact .nil
  | k :: ks, _, r => by
    rw [List.map_cons] at r
    cases r with
    | cons h t => exact .cons (kV_is h) (items_are t)
abbrev KT (H : Hp) : List (List Key × V) → List (List Key × Addr × Value) → Prop := Paired fun p q => p.1 = q.1 ∧ H q.2.1 = some (.tup (p.1.map kV)) ∧ RelV p.2 q.2.2
theorem KT.val {H : Hp} {kvs : List (List Key × V)} {xs : List (List Key × Addr × Value)} (r : KT H kvs xs) (k : List Key) : RelO (valV kvs k) ((atKey xs k).map (·.2)) := by
  induction r with
  | nil => exact True.intro
  | @cons p q ps qs h t ih =>
    obtain ⟨h1, _, h2⟩ := h
    by_cases e : p.1 = k
    · have e' : q.1 = k := h1.symm.trans e
      have b : atKey (q :: qs) k = some q.2 := by simp [atKey, List.find?_cons, e']
      rw [valV_pos e, b]; exact h2
    · have e' : ¬ q.1 = k := fun z => e (h1.trans z)
      have b : atKey (q :: qs) k = atKey qs k := by simp [atKey, List.find?_cons, e']
      rw [valV_neg e, b]; exact ih
theorem KT.repl {H : Hp} {kvs : List (List Key × V)} {xs : List (List Key × Addr × Value)} (r : KT H kvs xs) (k : List Key) {y : V} {u : Value} (ry : RelV y u) :
    KT H (kvs.map fun kv => if kv.1 = k then (kv.1, y) else kv) (xs.map (putAt k u)) := by
  induction r with
  | nil => exact .nil
  | @cons p q ps qs h t ih =>
    rw [List.map_cons, List.map_cons]
    refine .cons ?_ ih
    obtain ⟨h1, h2, h3⟩ := h
    unfold putAt
    by_cases e : p.1 = k
    · rw [if_pos e, if_pos (h1.symm.trans e)]; exact ⟨h1, h2, ry⟩
    · rw [if_neg e, if_neg (fun z => e (h1.trans z))]; exact ⟨h1, h2, h3⟩
theorem KT.put {H : Hp} {kvs : List (List Key × V)} {xs : List (List Key × Addr × Value)} (r : KT H kvs xs) (k : List Key) {b : Addr} {y : V} {u : Value} (hb : H b = some (.tup (k.map kV))) (ry : RelV y u) :
    KT H (putK kvs k y) (storedH xs k b u) := by
  have e : (kvs.any fun kv => decide (kv.1 = k)) = (atKey xs k).isSome := by
    rw [valV_any, (r.val k).isSome_eq, Option.isSome_map]
  unfold putK storedH
  rw [e]
  by_cases q : (atKey xs k).isSome = true
  · rw [if_pos q, if_pos q]; exact r.repl k ry
  · rw [if_neg q, if_neg q]; exact Paired.snoc r ⟨rfl, hb, ry⟩
theorem KT.keeps {H H' : Hp} {kvs : List (List Key × V)} {xs : List (List Key × Addr × Value)} (r : KT H kvs xs) (ht : ∀ b ys, H b = some (.tup ys) → H' b = some (.tup ys)) : KT H' kvs xs :=
  Paired.mapP r fun _ _ z => ⟨z.1, ht _ _ z.2.1, z.2.2⟩
section
variable {P : Program} {w : World} {H : Hp} {h : Heap} {a : Addr}
theorem rd_of {u : HO} (ok : HOk P w H h) (e : Rd H a u) : ObjOk P w H h a u := e.ok ok
theorem dk_rd {kvs : List (Key × V)} (ok : HOk P w H h) (e : Rd H a (.dK kvs)) : kvs.length ≤ sizeLine ∧ (a == sysModules) = false ∧ ∃ vs, KV kvs vs ∧ h.DictOf (mixKind P w) a vs :=
  show ObjOk P w H h a (.dK kvs) from rd_of ok e
theorem dk_of {kvs : List (Key × V)} (ok : HOk P w H h) (e : H a = some (.dK kvs)) : kvs.length ≤ sizeLine ∧ (a == sysModules) = false ∧ ∃ vs, KV kvs vs ∧ h.DictOf (mixKind P w) a vs := dk_rd ok (.inl e)
theorem key_of {ks : List Key} (ok : HOk P w H h) (e : H a = some (.tup (ks.map kV))) : (tupleKind (mixKind P w)).is h ks a := by
  obtain ⟨_, its, r, o, h1, h2, n, h3⟩ := (show ObjOk P w H h a (.tup (ks.map kV)) from ok a _ e)
  exact ⟨o, its.toArray, n, h1, h2, h3, by simpa using items_are r⟩
theorem dt_rd {kvs : List (List Key × V)} (ok : HOk P w H h) (e : Rd H a (.dT kvs)) : kvs.length ≤ sizeLine ∧ (a == sysModules) = false ∧
    ∃ xs, KT H kvs xs ∧ h.DictOfH (tupleKind (mixKind P w)) a xs := by
  obtain ⟨z, y, xs, r, o, es, ep, h1, h2, h3, h4, h5⟩ := (show ObjOk P w H h a (.dT kvs) from rd_of ok e)
  refine ⟨z, y, xs, r, o, es, ep, h1, h2, h3, h4, fun x hx => ?_, h5⟩
  have all : ∀ {l : List (List Key × V)} {m : List (List Key × Addr × Value)}, KT H l m → ∀ x ∈ m, (tupleKind (mixKind P w)).is h x.1 x.2.1 := by
    intro l m q
    induction q with
    | nil => intro x hx; exact nomatch hx
    | @cons p q ps qs hq t ih =>
      intro x hx
      rcases List.mem_cons.mp hx with e | hx
      · subst e
        exact key_of ok (by rw [← hq.1]; exact hq.2.1)
      · exact ih x hx
  exact all r x hx
theorem dt_of {kvs : List (List Key × V)} (ok : HOk P w H h) (e : H a = some (.dT kvs)) : kvs.length ≤ sizeLine ∧ (a == sysModules) = false ∧
    ∃ xs, KT H kvs xs ∧ h.DictOfH (tupleKind (mixKind P w)) a xs := dt_rd ok (.inl e)
end
def DGet (H : Hp) (a : Addr) (y : V) (r : Option V) : Prop :=
  (∃ kvs k, Rd H a (.dK kvs) ∧ y = kV k ∧ r = valV kvs k) ∨ ∃ kvs k b, Rd H a (.dT kvs) ∧ y = .ref b ∧ H b = some (.tup (k.map kV)) ∧ r = valV kvs k
def DPut (H : Hp) (a : Addr) (y v : V) (H' : Hp) : Prop :=
  (∃ kvs k, H a = some (.dK kvs) ∧ y = kV k ∧ kvs.length < sizeLine ∧ H' = upd H a (.dK (putK kvs k v))) ∨
  ∃ kvs k b, H a = some (.dT kvs) ∧ y = .ref b ∧ H b = some (.tup (k.map kV)) ∧ kvs.length < sizeLine ∧ H' = upd H a (.dT (putK kvs k v))
theorem DGet.k {H : Hp} {a : Addr} {kvs : List (Key × V)} {k : Key} (e : H a = some (.dK kvs)) : DGet H a (kV k) (valV kvs k) := .inl ⟨kvs, k, .inl e, rfl, rfl⟩
theorem DGet.t {H : Hp} {a b : Addr} {kvs : List (List Key × V)} {k : List Key} (e : H a = some (.dT kvs)) (eb : H b = some (.tup (k.map kV))) : DGet H a (.ref b) (valV kvs k) := .inr ⟨kvs, k, b, .inl e, rfl, eb, rfl⟩
theorem DPut.k {H : Hp} {a : Addr} {kvs : List (Key × V)} {k : Key} {v : V} (e : H a = some (.dK kvs)) (hl : kvs.length < sizeLine) : DPut H a (kV k) v (upd H a (.dK (putK kvs k v))) := .inl ⟨kvs, k, e, rfl, hl, rfl⟩
theorem DPut.t {H : Hp} {a b : Addr} {kvs : List (List Key × V)} {k : List Key} {v : V} (e : H a = some (.dT kvs)) (eb : H b = some (.tup (k.map kV))) (hl : kvs.length < sizeLine) :
    DPut H a (.ref b) v (upd H a (.dT (putK kvs k v))) := .inr ⟨kvs, k, b, e, rfl, eb, hl, rfl⟩
section
variable {X : Cx} {pins : List (Addr × Obj)} {σ : St} {H : Hp} {s : Shared} {a : Addr} {y v : V} {u r : Value} {o : Option V} {A : Around} {E : Value → Shared → Prop}
theorem d_in {Q : Value → Shared → Prop} (hu : A.units + 1 < cLine) (I : Inv X pins σ H s) (g : DGet H a y o) (ry : RelV y u) (h : ∀ s', Inv X pins σ H s' → Q (.bool o.isSome) s') :
    wpAny (model X.prog X.w) A (compareOp .In u (.ref a)) Q E s := by
  rcases g with ⟨kvs, k, e, ey, l⟩ | ⟨kvs, k, b, e, ey, eb, l⟩
  · subst ey
    obtain ⟨z, hd, vs, rel, dd⟩ := dk_rd I.hok e
    refine wpAny_in_of (kV_is ry) hd dd.mapOf ?_
    rw [← (rel.val k).isSome_eq, ← l]
    exact h _ (I.tok _)
  · subst ey
    cases (show u = Value.ref b from ry)
    obtain ⟨z, hd, xs, rel, dd⟩ := dt_rd I.hok e
    refine wpAny_in_heap (tupleKind_room_in1 hu) (key_of I.hok eb) hd dd ?_
    have q := (rel.val k).isSome_eq
    rw [Option.isSome_map] at q
    rw [← q, ← l]
    exact h _ (I.tok _)
theorem d_notIn {Q : Value → Shared → Prop} (hu : A.units + 1 < cLine) (I : Inv X pins σ H s) (g : DGet H a y o) (ry : RelV y u) (h : ∀ s', Inv X pins σ H s' → Q (.bool (!o.isSome)) s') :
    wpAny (model X.prog X.w) A (compareOp .NotIn u (.ref a)) Q E s := by
  rcases g with ⟨kvs, k, e, ey, l⟩ | ⟨kvs, k, b, e, ey, eb, l⟩
  · subst ey
    obtain ⟨z, hd, vs, rel, dd⟩ := dk_rd I.hok e
    refine wpAny_notIn_of (kV_is ry) hd dd.mapOf ?_
    rw [← (rel.val k).isSome_eq, ← l]
    exact h _ (I.tok _)
  · subst ey
    cases (show u = Value.ref b from ry)
    obtain ⟨z, hd, xs, rel, dd⟩ := dt_rd I.hok e
    refine wpAny_notIn_heap (tupleKind_room_in1 hu) (key_of I.hok eb) hd dd ?_
    have q := (rel.val k).isSome_eq
    rw [Option.isSome_map] at q
    rw [← q, ← l]
    exact h _ (I.tok _)
theorem d_write {h' : Heap} {t' : Nat} {ob : HO} (I : Inv X pins σ H s) (mu : Mut (H a)) (hs : Heap.SameBut a s.heap h') (he : ∃ q, h'.get? a = some q) (new : ObjOk X.prog X.w (upd H a ob) h' a ob) :
    Inv X pins σ (upd H a ob) { s with heap := h', toks := t' } :=
  I.write (x := a) (e := a) mu (.inl rfl) (fun b q hb z => (hs.2 b hb).trans z) he new
theorem dk_new {P : Program} {w : World} {H' : Hp} {h' : Heap} {kvs : List (Key × V)} {vs : List (Key × Value)} (z : kvs.length ≤ sizeLine) (hd : (a == sysModules) = false) (rel : KV kvs vs) (dd : h'.DictOf (mixKind P w) a vs) :
    ObjOk P w H' h' a (.dK kvs) := ⟨z, hd, vs, rel, dd⟩
theorem d_setItem {H' : Hp} {Q : Unit → Shared → Prop} (hu : A.units + 1 < cLine) (I : Inv X pins σ H s) (g : DPut H a y v H') (ry : RelV y u) (rv : RelV v r) (h : ∀ s', Inv X pins σ H' s' → Q () s') :
    wpAny (model X.prog X.w) A (setItem (.ref a) u r) Q E s := by
  rcases g with ⟨kvs, k, e, ey, l, eH⟩ | ⟨kvs, k, b, e, ey, eb, l, eH⟩
  · subst ey eH
    obtain ⟨z, hd, vs, rel, dd⟩ := dk_of I.hok e
    have hz : vs.length ≤ sizeLine := by rw [← rel.length]; exact z
    have hl : (putK kvs k v).length ≤ sizeLine := by have := length_putK kvs k v; omega
    refine wpAny_setItem_pairs (hsz := hz) (kV_is ry) dd fun h' dd' hs => h _ ?_
    have he : ∃ q, h'.get? a = some q := let ⟨q, _, _, hq, _⟩ := dd'; ⟨q, hq⟩
    exact d_write I (by rw [e]; exact True.intro) hs he (dk_new hl hd (rel.put k rv) dd')
  · subst ey eH
    cases (show u = Value.ref b from ry)
    obtain ⟨z, hd, xs, rel, dd⟩ := dt_of I.hok e
    have hz : xs.length ≤ sizeLine := by rw [← Paired.length rel]; exact z
    have hl : (putK kvs k v).length ≤ sizeLine := by have := length_putK kvs k v; omega
    refine wpAny_setItem_heap (hsz := hz) (tupleKind_room_in1 hu) (key_of I.hok eb) dd fun h' dd' hs => h _ ?_
    obtain ⟨q, es, ep, hq, h2, h3, h4, _, h5⟩ := dd'
    refine d_write I (by rw [e]; exact True.intro) hs ⟨q, hq⟩ ⟨hl, hd, _, (rel.put k eb rv).keeps fun c ys ec => ?_, q, es, ep, hq, h2, h3, h4, h5⟩
    rw [upd_ne (ne_of ec e (fun z => nomatch z))]
    exact ec
end
def tDIn (ty td : TE) : TE := fun σ H Q => ty σ H fun y H1 => td σ H1 fun x H2 => ∃ a o, x = .ref a ∧ DGet H2 a y o ∧ Q (.bl o.isSome) H2
def tDNotIn (ty td : TE) : TE := fun σ H Q => ty σ H fun y H1 => td σ H1 fun x H2 => ∃ a o, x = .ref a ∧ DGet H2 a y o ∧ Q (.bl (!o.isSome)) H2
def sDPut (td ty tv : TE) : TS := fun D σ H => tv σ H fun v H1 => td σ H1 fun x H2 => ty σ H2 fun y H3 => ∃ a H4, x = .ref a ∧ DPut H3 a y v H4 ∧ D.nx σ H4
section
variable {X : Cx} {o i e value : Expr} {pos pos' tpos : Pos} {td ty tv : TE}
theorem pc_din (hu : X.A.units + 1 < cLine) (hi : PE X i ty) (ho : PE X o td) : PC X .In i o (tDIn ty td) := by
  intro pins s σ H Q I h
  refine thn (hi pins s σ H _ I h) fun iv s1 ⟨y, H1, I1, ry, q1⟩ => thn (ho pins s1 σ H1 _ I1 q1) fun u s2 ⟨x, H2, I2, rx, a, ov, ex, g, q2⟩ => ?_
  subst ex
  obtain rfl : u = Value.ref a := rx
  exact d_in hu I2 g ry fun s3 I3 => ⟨.bl ov.isSome, H2, I3, rfl, q2⟩
theorem pc_dnotin (hu : X.A.units + 1 < cLine) (hi : PE X i ty) (ho : PE X o td) : PC X .NotIn i o (tDNotIn ty td) := by
  intro pins s σ H Q I h
  refine thn (hi pins s σ H _ I h) fun iv s1 ⟨y, H1, I1, ry, q1⟩ => thn (ho pins s1 σ H1 _ I1 q1) fun u s2 ⟨x, H2, I2, rx, a, ov, ex, g, q2⟩ => ?_
  subst ex
  obtain rfl : u = Value.ref a := rx
  exact d_notIn hu I2 g ry fun s3 I3 => ⟨.bl (!ov.isSome), H2, I3, rfl, q2⟩
theorem ps_dput (hu : X.A.units + 1 < cLine) (ho : PE X o td) (hi : PE X i ty) (hv : PE X value tv) (hs : swapsWith value (some (.Subscript o i pos')) pos.line X.env = pure false) :
    PS X (.Assign [.Subscript o i pos'] value pos) (sDPut td ty tv) := by
  intro pins s σ H D I h
  refine wpAny_Assign_Subscript (thn (hv pins s σ H _ I h) fun r s1 ⟨v, H1, I1, rv, q1⟩ => thn (ho pins s1 σ H1 _ I1 q1) fun u s2 ⟨x, H2, I2, rx, q2⟩ => thn (hi pins s2 σ H2 _ I2 q2) fun iv s3 ⟨y, H3, I3, ry, a, H4, ex, g, q3⟩ => ?_) hs
  subst ex
  obtain rfl : u = Value.ref a := rx
  exact d_setItem hu I3 g ry rv fun s4 I4 => ⟨σ, H4, I4, q3⟩
end
theorem dt_empty {P : Program} {w : World} {H : Hp} (h : Heap) (hb : sysModules < h.objs.size) : ObjOk P w H (h.push { cls := .type "dict", data := .dict #[] }) h.objs.size (.dT []) :=
  ⟨Nat.zero_le _, beq_eq_false_iff_ne.mpr (Ne.symm (Nat.ne_of_lt hb)), [], .nil, _, #[], 0, Heap.get?_push_size _ rfl, ⟨rfl, rfl, rfl⟩, rfl, rfl, List.nodup_nil⟩
def tDNewT : TE := fun _ H Q => ∀ p, H p = none → Q (.ref p) (upd H p (.dT []))
section
variable {X : Cx} {pos : Pos}
theorem pe_dnewT : PE X (.Dict [] [] pos) tDNewT := fun pins s σ H Q I h =>
  wpAny_Dict_empty ⟨.ref s.heap.objs.size, _, I.laid (a := s.heap.objs.size) (o := .dT []) (t' := s.toks) (fun _ _ q => Heap.get?_push_of_some _ q) (Nat.le_refl _) (dt_empty s.heap I.big), rfl, h _ (I.hok.fresh (Nat.le_refl _))⟩
end
structure M1 (X : Cx) (o : Expr) (m : Str) (apos : Pos) (e : Expr) (cpos : Pos) : Prop where
  base : attributeBase o m X.env (eval o X.env) = eval o X.env
  few : ((backTo cpos (starEach [e] X.env)).all (fun x => !x.1) && (backToKw cpos (keywordEach [] X.env)).all (fun x => x.1.isSome)
    && decide (([e] : List Expr).length + ([] : List Keyword).length + (if ([] : List Keyword).isEmpty then 0 else 1) < 30)) = true
  line : (apos.endLine == cpos.line) = true
  trees : backTo cpos (starEach [e] X.env) = [(false, eval e X.env)]
structure M2 (X : Cx) (o : Expr) (m : Str) (apos : Pos) (e f : Expr) (cpos : Pos) : Prop where
  base : attributeBase o m X.env (eval o X.env) = eval o X.env
  few : ((backTo cpos (starEach [e, f] X.env)).all (fun x => !x.1) && (backToKw cpos (keywordEach [] X.env)).all (fun x => x.1.isSome)
    && decide (([e, f] : List Expr).length + ([] : List Keyword).length + (if ([] : List Keyword).isEmpty then 0 else 1) < 30)) = true
  line : (apos.endLine == cpos.line) = true
  trees : backTo cpos (starEach [e, f] X.env) = [(false, eval e X.env), (false, eval f X.env)]
def IsD (H : Hp) (a : Addr) : Prop := (∃ kvs, Rd H a (.dK kvs)) ∨ ∃ kvs, Rd H a (.dT kvs)
theorem isD_at {X : Cx} {pins : List (Addr × Obj)} {σ : St} {H : Hp} {s : Shared} {a : Addr} (I : Inv X pins σ H s) (d : IsD H a) :
    s.TypeIs (.ref a) "dict" ∧ (∀ b, Value.ref a = .ref b → ∃ ob, s.heap.get? b = some ob ∧ ob.dict = none) ∧ (a == sysModules) = false := by
  rcases d with ⟨kvs, e⟩ | ⟨kvs, e⟩
  · obtain ⟨_, hd, vs, _, dd⟩ := dk_rd I.hok e
    refine ⟨dd.typeIs, fun b q => ?_, hd⟩
    cases q
    obtain ⟨ob, _, _, h1, h2, _⟩ := dd
    exact ⟨ob, h1, h2.2.1⟩
  · obtain ⟨_, hd, xs, _, dd⟩ := dt_rd I.hok e
    refine ⟨dd.typeIs, fun b q => ?_, hd⟩
    cases q
    obtain ⟨ob, _, _, h1, h2, _⟩ := dd
    exact ⟨ob, h1, h2.2.1⟩
section
variable {X : Cx} {pins : List (Addr × Obj)} {σ : St} {H : Hp} {s : Shared} {a : Addr} {y d : V} {u r : Value} {o : Option V} {A : Around} {E : Value → Shared → Prop}
theorem d_get2 {Q : Value → Shared → Prop} (hu : A.units + 1 < cLine) (I : Inv X pins σ H s) (g : DGet H a y o) (ry : RelV y u) (rd : RelV d r) (h : ∀ w' s', Inv X pins σ H s' → RelV (o.getD d) w' → Q w' s') :
    wpAny (model X.prog X.w) A (call (.builtin "dict.get") [.ref a, u, r]) Q E s := by
  rcases g with ⟨kvs, k, e, ey, l⟩ | ⟨kvs, k, b, e, ey, eb, l⟩
  · subst ey
    obtain ⟨z, hd, vs, rel, dd⟩ := dk_rd I.hok e
    refine call_meetsIn PySem.F.slot_dict_get dd.typeIs PySem.F.entry_dict_get (PySem.F.args_dict_get_3 _ _ _) (meets_dict_get_default (mixKind X.prog X.w) a (kV_is ry) hd r) ⟨_, dd.mapOf, h _ _ (I.tok _) ?_⟩
    rw [l]
    exact (rel.val k).getD rd
  · subst ey
    cases (show u = Value.ref b from ry)
    obtain ⟨z, hd, xs, rel, dd⟩ := dt_rd I.hok e
    refine call_meetsIn PySem.F.slot_dict_get dd.typeIs PySem.F.entry_dict_get (PySem.F.args_dict_get_3 _ _ _) (meetsH_dict_get_default (tupleKind (mixKind X.prog X.w)) a b hd r) ⟨tupleKind_room_in1 hu, k, xs, key_of I.hok eb, dd, h _ _ (I.tok _) ?_⟩
    rw [l]
    exact (rel.val k).getD rd
end
def tDGet2 (td ty tx : TE) : TE := fun σ H Q => td σ H fun x H1 => ∃ a, x = .ref a ∧ IsD H1 a ∧ ty σ H1 fun y H2 => tx σ H2 fun z H3 => ∃ o, DGet H3 a y o ∧ Q (o.getD z) H3
section
variable {X : Cx} {o e f : Expr} {apos cpos : Pos} {td ty tx : TE}
theorem pe_dget2 (hu : X.A.units + 1 < cLine) (ho : PE X o td) (he : PE X e ty) (hf : PE X f tx) (m : M2 X o "get" apos e f cpos) : PE X (.Call (.Attribute o "get" apos) [e, f] [] cpos) (tDGet2 td ty tx) := by
  intro pins s σ H Q I h
  refine wpAny_Call_method m.base m.few m.line PySem.F.plainAttrs_dict PySem.F.slot_dict_get PySem.F.type_dict_get (thn (ho pins s σ H _ I h) fun u s1 ⟨x, H1, I1, rx, a, ex, d, q1⟩ => ?_)
  subst ex
  obtain rfl : u = Value.ref a := rx
  obtain ⟨t1, t2, _⟩ := isD_at I1 d
  refine ⟨t1, t2, ?_⟩
  rw [m.trees]
  refine Calls.callWith_builtin rfl (Calls.evalArgs_plain (Calls.spliced_cons (thn (he pins s1 σ H1 _ I1 q1) fun iv s2 ⟨y, H2, I2, ry, q2⟩ =>
    Calls.spliced_cons (thn (hf pins s2 σ H2 _ I2 q2) fun fv s3 ⟨z, H3, I3, rz, ov, g, q3⟩ => Calls.spliced_nil ?_))))
  exact d_get2 hu I3 g ry rz fun w' s4 I4 rw' => ⟨_, H3, I4, rw', q3⟩
end
end L2
set_option Elab.async false
set_option linter.all false
set_option maxRecDepth 100000
set_option maxHeartbeats 4000000
namespace PySem
open Sem (wp)
section
variable {prog : Program} {w : World} {A : Around} {E : Value → Shared → Prop} {s : Shared}
theorem zipTT_next_item {z TI TO i1 i2 l1 l2 : Addr} {k1 k2 : Nat} {xs ys : Array Value} {x y a b : Value} {Q : Value → Shared → Prop} (D : ZipApart z TI TO i1 i2 l1 l2)
    (hz : IsZip s.heap z TI TO .none) (hTI : IsPair s.heap TI (.ref i1) (.ref i2)) (hTO : IsPair s.heap TO a b)
    (h1 : s.heap.IsTupleIter i1 l1 k1) (h2 : s.heap.IsTupleIter i2 l2 k2) (hl1 : s.heap.IsTuple l1 xs) (hl2 : s.heap.IsTuple l2 ys) (hx : xs[k1]? = some x) (hy : ys[k2]? = some y)
    (hQ : ∀ h', IsZip h' z TI TO (rawInt s.heap.objs.size) → IsPair h' TO x y → h'.IsTupleIter i1 l1 (k1 + 1) → h'.IsTupleIter i2 l2 (k2 + 1) → IsPair h' s.heap.objs.size x y → h'.objs.size = s.heap.objs.size + 1 →
      (∀ c o, c ≠ z → c ≠ TO → c ≠ i1 → c ≠ i2 → s.heap.get? c = some o → h'.get? c = some o) → Q (.ref s.heap.objs.size) { s with heap := h' }) :
    wpAny (model prog w) A (Builtin.«zip.__next__» ⟨[.ref z], []⟩) (fun fin s' => ∃ v, fin = .done (.ret v) ∧ Q v s') E s := by
  show wpAny _ _ (field (.ref z) 2 >>= _) _ _ _
  refine wpAny_bind (wpAny_field hz rfl (x := .bool false) rfl ?_)
  show wpAny _ _ (field (.ref z) 3 >>= _) _ _ _
  refine wpAny_bind (wpAny_field hz rfl (x := .ref TI) rfl ?_)
  refine wpAny_bind (wpAny_seqItems hTI rfl ?_)
  show wpAny _ _ (Builtin.SmallTypes.ownedTupleIsFree (.ref z) >>= _) _ _ _
  refine wpAny_bind ?_
  unfold Builtin.SmallTypes.ownedTupleIsFree
  refine wpAny_bind (wpAny_field hz rfl (x := .none) rfl (wpAny_pure ?_))
  simp only [if_true]
  refine wpAny_bind (wpAny_rule ?_)
  refine wpAny_bind (wpAny_field hz rfl (x := .ref TO) rfl ?_)
  refine wpAny_bind (wpAny_setField_rec hz (by simp) fun h₁ hz₁ hs₁ => ?_)
  replace hz₁ : IsZip h₁ z TI TO .ellipsis := hz₁
  refine wpAny_bind ?_
  simp only [List.zipIdx_cons, List.zipIdx_nil, List.forIn_cons, List.forIn_nil]
  refine wpAny_bind (wpAny_bind (wpAny_onRaise ?_))
  show wpAny _ _ (Builtin.SmallTypes.nextOf (.ref i1) >>= _) _ _ _
  refine wpAny_bind (nextOf_tuple_item (h1.extBut hs₁.extBut D.i1z) (hl1.extBut hs₁.extBut D.l1z) hx fun h₂ h1₂ hs₂ => wpAny_pure ?_)
  have hTO₂ : IsPair h₂ TO a b := hs₂.extBut _ _ D.TOi1 (hs₁.extBut _ _ D.TOz hTO)
  refine wpAny_bind (wpAny_seqItems hTO₂ rfl ?_)
  refine wpAny_bind (wpAny_updateSeq_pair hTO₂ fun h₃ hTO₃ hs₃ => ?_)
  replace hTO₃ : IsPair h₃ TO x b := hTO₃
  refine wpAny_bind (wpAny_letGo (wpAny_pure ?_))
  refine wpAny_bind (wpAny_bind (wpAny_onRaise ?_))
  show wpAny _ _ (Builtin.SmallTypes.nextOf (.ref i2) >>= _) _ _ _
  refine wpAny_bind (nextOf_tuple_item (((h2.extBut hs₁.extBut D.i2z).extBut hs₂.extBut D.i12.symm).extBut hs₃.extBut D.TOi2.symm)
    (((hl2.extBut hs₁.extBut D.l2z).extBut hs₂.extBut D.l2i1).extBut hs₃.extBut D.l2TO) hy fun h₄ h2₄ hs₄ => wpAny_pure ?_)
  have hTO₄ : IsPair h₄ TO x b := hs₄.extBut _ _ D.TOi2 hTO₃
  refine wpAny_bind (wpAny_seqItems hTO₄ rfl ?_)
  refine wpAny_bind (wpAny_updateSeq_pair hTO₄ fun h₅ hTO₅ hs₅ => ?_)
  replace hTO₅ : IsPair h₅ TO x y := hTO₅
  refine wpAny_bind (wpAny_letGo (wpAny_pure (wpAny_pure ?_)))
  refine wpAny_bind (wpAny_seqItems hTO₅ rfl ?_)
  refine wpAny_bind (wpAny_newTuple ?_)
  have hsz : h₅.objs.size = s.heap.objs.size := by rw [hs₅.1, hs₄.1, hs₃.1, hs₂.1, hs₁.1]
  have hz₅ : IsZip h₅ z TI TO .ellipsis := hs₅.extBut _ _ D.TOz.symm (hs₄.extBut _ _ D.i2z.symm (hs₃.extBut _ _ D.TOz.symm (hs₂.extBut _ _ D.i1z.symm hz₁)))
  have hk₅ : ∀ c o, c ≠ z → c ≠ TO → c ≠ i1 → c ≠ i2 → s.heap.get? c = some o → h₅.get? c = some o := fun c o c1 c2 c3 c4 e =>
    hs₅.extBut _ _ c2 (hs₄.extBut _ _ c4 (hs₃.extBut _ _ c2 (hs₂.extBut _ _ c3 (hs₁.extBut _ _ c1 e))))
  have h1₅ : h₅.IsTupleIter i1 l1 (k1 + 1) := ((h1₂.extBut hs₃.extBut D.TOi1.symm).extBut hs₄.extBut D.i12).extBut hs₅.extBut D.TOi1.symm
  have h2₅ : h₅.IsTupleIter i2 l2 (k2 + 1) := h2₄.extBut hs₅.extBut D.TOi2.symm
  have hzlt : z < h₅.objs.size := Heap.lt_size hz₅
  have hTOlt : TO < h₅.objs.size := Heap.lt_size hTO₅
  have hi1lt : i1 < h₅.objs.size := by obtain ⟨_, e, _⟩ := h1₅; exact Heap.lt_size e
  have hi2lt : i2 < h₅.objs.size := by obtain ⟨_, e, _⟩ := h2₅; exact Heap.lt_size e
  show wpAny _ _ (Builtin.SmallTypes.ownedTupleHandOut (.ref z) (.ref h₅.objs.size) >>= _) _ _ _
  refine wpAny_bind ?_
  unfold Builtin.SmallTypes.ownedTupleHandOut
  have hz₆ : IsZip (h₅.push { cls := .type "tuple", data := .seq #[x, y] }) z TI TO .ellipsis := Heap.get?_push_of_some _ hz₅
  refine wpAny_bind (wpAny_setField_rec hz₆ (by simp) fun h₇ hz₇ hs₇ => ?_)
  replace hz₇ : IsZip h₇ z TI TO (rawInt h₅.objs.size) := hz₇
  refine wpAny_setField_rec hz₇ (by simp) fun h₈ hz₈ hs₈ => ?_
  replace hz₈ : IsZip h₈ z TI TO (rawInt h₅.objs.size) := hz₈
  have up : ∀ c o, c ≠ z → h₅.get? c = some o → h₈.get? c = some o := fun c o c1 e => hs₈.extBut _ _ c1 (hs₇.extBut _ _ c1 (Heap.get?_push_of_some _ e))
  have hT₈ : IsPair h₈ h₅.objs.size x y := hs₈.extBut _ _ (Nat.ne_of_gt hzlt) (hs₇.extBut _ _ (Nat.ne_of_gt hzlt) (Heap.get?_push_size _ rfl))
  have hz8 : h₈.objs.size = h₅.objs.size + 1 := by rw [hs₈.1, hs₇.1, Heap.size_push]
  rw [hsz] at hz₈ hT₈ hz8
  refine wpAny_pure ⟨_, rfl, ?_⟩
  show Q (.ref h₅.objs.size) _
  rw [hsz]
  exact hQ h₈ hz₈ (up _ _ D.TOz hTO₅) (let ⟨o, ho, r⟩ := h1₅; ⟨o, up _ o D.i1z ho, r⟩) (let ⟨o, ho, r⟩ := h2₅; ⟨o, up _ o D.i2z ho, r⟩) hT₈ hz8 fun c o c1 c2 c3 c4 e => up c o c1 (hk₅ c o c1 c2 c3 c4 e)
theorem zipTT_next_end {z TI TO i1 i2 l1 l2 : Addr} {k1 k2 : Nat} {xs ys : Array Value} {a b : Value} {Q : Fin → Shared → Prop} (hh : A.handled = none) (D : ZipApart z TI TO i1 i2 l1 l2)
    (hz : IsZip s.heap z TI TO .none) (hTI : IsPair s.heap TI (.ref i1) (.ref i2)) (hTO : IsPair s.heap TO a b)
    (h1 : s.heap.IsTupleIter i1 l1 k1) (h2 : s.heap.IsTupleIter i2 l2 k2) (hl1 : s.heap.IsTuple l1 xs) (hl2 : s.heap.IsTuple l2 ys) (hend : xs[k1]? = none ∨ ys[k2]? = none)
    (hE : ∀ h' e, (∀ c o, c ≠ z → c ≠ TO → c ≠ i1 → c ≠ i2 → s.heap.get? c = some o → h'.get? c = some o) → (∃ o, h'.get? e = some o ∧ o.cls = .type "StopIteration") → E (.ref e) { s with heap := h' }) :
    wpAny (model prog w) A (Builtin.«zip.__next__» ⟨[.ref z], []⟩) Q E s := by
  show wpAny _ _ (field (.ref z) 2 >>= _) _ _ _
  refine wpAny_bind (wpAny_field hz rfl (x := .bool false) rfl ?_)
  show wpAny _ _ (field (.ref z) 3 >>= _) _ _ _
  refine wpAny_bind (wpAny_field hz rfl (x := .ref TI) rfl ?_)
  refine wpAny_bind (wpAny_seqItems hTI rfl ?_)
  show wpAny _ _ (Builtin.SmallTypes.ownedTupleIsFree (.ref z) >>= _) _ _ _
  refine wpAny_bind ?_
  unfold Builtin.SmallTypes.ownedTupleIsFree
  refine wpAny_bind (wpAny_field hz rfl (x := .none) rfl (wpAny_pure ?_))
  simp only [if_true]
  refine wpAny_bind (wpAny_rule ?_)
  refine wpAny_bind (wpAny_field hz rfl (x := .ref TO) rfl ?_)
  refine wpAny_bind (wpAny_setField_rec hz (by simp) fun h₁ hz₁ hs₁ => ?_)
  replace hz₁ : IsZip h₁ z TI TO .ellipsis := hz₁
  refine wpAny_bind ?_
  simp only [List.zipIdx_cons, List.zipIdx_nil, List.forIn_cons, List.forIn_nil]
  refine wpAny_bind (wpAny_bind (wpAny_onRaise ?_))
  show wpAny _ _ (Builtin.SmallTypes.nextOf (.ref i1) >>= _) _ _ _
  cases hx : xs[k1]? with
  | none =>
    refine wpAny_bind (nextOf_tuple_end hh (h1.extBut hs₁.extBut D.i1z) (hl1.extBut hs₁.extBut D.l1z) hx fun h₂ e hs₂ he => ?_)
    obtain ⟨oe, hoe, hce⟩ := he
    have hz₂ : IsZip h₂ z TI TO .ellipsis := hs₂ _ _ D.i1z.symm hz₁
    have hez : e ≠ z := fun x => by subst x; rw [hz₂] at hoe; cases hoe; simp at hce
    refine wpAny_setField_rec hz₂ (by simp) fun h₃ _ hs₃ => hE h₃ e (fun c o c1 _ c3 _ x => hs₃.extBut _ _ c1 (hs₂ _ _ c3 (hs₁.extBut _ _ c1 x))) ⟨oe, hs₃.extBut _ _ hez hoe, hce⟩
  | some x =>
    have hy : ys[k2]? = none := by rcases hend with h | h; rw [hx] at h; cases h; exact h
    refine wpAny_bind (nextOf_tuple_item (h1.extBut hs₁.extBut D.i1z) (hl1.extBut hs₁.extBut D.l1z) hx fun h₂ h1₂ hs₂ => wpAny_pure ?_)
    have hTO₂ : IsPair h₂ TO a b := hs₂.extBut _ _ D.TOi1 (hs₁.extBut _ _ D.TOz hTO)
    refine wpAny_bind (wpAny_seqItems hTO₂ rfl ?_)
    refine wpAny_bind (wpAny_updateSeq_pair hTO₂ fun h₃ hTO₃ hs₃ => ?_)
    refine wpAny_bind (wpAny_letGo (wpAny_pure ?_))
    refine wpAny_bind (wpAny_bind (wpAny_onRaise ?_))
    show wpAny _ _ (Builtin.SmallTypes.nextOf (.ref i2) >>= _) _ _ _
    refine wpAny_bind (nextOf_tuple_end hh (((h2.extBut hs₁.extBut D.i2z).extBut hs₂.extBut D.i12.symm).extBut hs₃.extBut D.TOi2.symm)
      (((hl2.extBut hs₁.extBut D.l2z).extBut hs₂.extBut D.l2i1).extBut hs₃.extBut D.l2TO) hy fun h₄ e hs₄ he => ?_)
    obtain ⟨oe, hoe, hce⟩ := he
    have hz₄ : IsZip h₄ z TI TO .ellipsis := hs₄ _ _ D.i2z.symm (hs₃.extBut _ _ D.TOz.symm (hs₂.extBut _ _ D.i1z.symm hz₁))
    have hez : e ≠ z := fun x => by subst x; rw [hz₄] at hoe; cases hoe; simp at hce
    refine wpAny_setField_rec hz₄ (by simp) fun h₅ _ hs₅ => hE h₅ e (fun c o c1 c2 c3 c4 x => hs₅.extBut _ _ c1 (hs₄ _ _ c4 (hs₃.extBut _ _ c2 (hs₂.extBut _ _ c3 (hs₁.extBut _ _ c1 x))))) ⟨oe, hs₅.extBut _ _ hez hoe, hce⟩
theorem wpAny_pyNext_zipTT_item {z TI TO i1 i2 l1 l2 : Addr} {k1 k2 : Nat} {xs ys : Array Value} {x y a b : Value} {Q : Option Value → Shared → Prop} (D : ZipApart z TI TO i1 i2 l1 l2)
    (hz : IsZip s.heap z TI TO .none) (hTI : IsPair s.heap TI (.ref i1) (.ref i2)) (hTO : IsPair s.heap TO a b)
    (h1 : s.heap.IsTupleIter i1 l1 k1) (h2 : s.heap.IsTupleIter i2 l2 k2) (hl1 : s.heap.IsTuple l1 xs) (hl2 : s.heap.IsTuple l2 ys) (hx : xs[k1]? = some x) (hy : ys[k2]? = some y)
    (hQ : ∀ h', IsZip h' z TI TO (rawInt s.heap.objs.size) → IsPair h' TO x y → h'.IsTupleIter i1 l1 (k1 + 1) → h'.IsTupleIter i2 l2 (k2 + 1) → IsPair h' s.heap.objs.size x y → h'.objs.size = s.heap.objs.size + 1 →
      (∀ c o, c ≠ z → c ≠ TO → c ≠ i1 → c ≠ i2 → s.heap.get? c = some o → h'.get? c = some o) → Q (some (.ref s.heap.objs.size)) { s with heap := h' }) :
    wpAny (model prog w) A (pyNext (.ref z)) Q E s := by
  have hT : s.TypeIs (.ref z) "zip" := ⟨_, hz, rfl⟩
  unfold pyNext
  exact wpAny_bind (wpAny_attempt (wpAny_callSpecial?_slot (name := Str.ofString "__next__") hT F.slot_zip_next
    (wpAny_call_entry F.slot_zip_next hT F.entry_zip_next
      (zipTT_next_item D hz hTI hTO h1 h2 hl1 hl2 hx hy fun h' a1 a2 a3 a4 a5 a6 a7 => wpAny_pure (hQ h' a1 a2 a3 a4 a5 a6 a7)) (F.args_zip_next_1 _))))
theorem wpAny_pyNext_zipTT_end {z TI TO i1 i2 l1 l2 : Addr} {k1 k2 : Nat} {xs ys : Array Value} {a b : Value} {Q : Option Value → Shared → Prop} (hh : A.handled = none) (D : ZipApart z TI TO i1 i2 l1 l2)
    (hz : IsZip s.heap z TI TO .none) (hTI : IsPair s.heap TI (.ref i1) (.ref i2)) (hTO : IsPair s.heap TO a b)
    (h1 : s.heap.IsTupleIter i1 l1 k1) (h2 : s.heap.IsTupleIter i2 l2 k2) (hl1 : s.heap.IsTuple l1 xs) (hl2 : s.heap.IsTuple l2 ys) (hend : xs[k1]? = none ∨ ys[k2]? = none)
    (hQ : ∀ h', (∀ c o, c ≠ z → c ≠ TO → c ≠ i1 → c ≠ i2 → s.heap.get? c = some o → h'.get? c = some o) → Q none { s with heap := h' }) : wpAny (model prog w) A (pyNext (.ref z)) Q E s := by
  have hT : s.TypeIs (.ref z) "zip" := ⟨_, hz, rfl⟩
  unfold pyNext
  refine wpAny_bind (wpAny_attempt (wpAny_callSpecial?_slot (name := Str.ofString "__next__") hT F.slot_zip_next
    (wpAny_call_entry F.slot_zip_next hT F.entry_zip_next (zipTT_next_end hh D hz hTI hTO h1 h2 hl1 hl2 hend fun h' e hk he => ?_) (F.args_zip_next_1 _))))
  obtain ⟨o, ho, hc⟩ := he
  refine wpAny_bind (wpAny_isInstance (T := "StopIteration") (b := true) ⟨o, ho, hc⟩ isSubtype_stop ?_)
  exact wpAny_pure (hQ _ hk)
end
abbrev zUH1 (h : Heap) (l1 : Addr) : Heap := h.push { cls := .type "tuple_iterator", data := .fields #[.ref l1, .int 0 0] }
abbrev zUH2 (h : Heap) (l1 l2 : Addr) : Heap := (zUH1 h l1).push { cls := .type "tuple_iterator", data := .fields #[.ref l2, .int 0 0] }
abbrev zUH3 (h : Heap) (l1 l2 : Addr) : Heap := (zUH2 h l1 l2).push { cls := .type "tuple", data := .seq #[.ref h.objs.size, .ref (zUH1 h l1).objs.size] }
abbrev zUH4 (h : Heap) (l1 l2 : Addr) : Heap := (zUH3 h l1 l2).push { cls := .type "tuple", data := .seq #[.none, .none] }
abbrev zUH5 (h : Heap) (l1 l2 : Addr) : Heap := (zUH4 h l1 l2).push { cls := .type "zip", data := .fields #[.none, .bool false, .bool false, .ref (zUH2 h l1 l2).objs.size, .ref (zUH3 h l1 l2).objs.size] }
theorem meets_zip_newTT (l1 l2 : Addr) (xs ys : Array Value) :
    Meets (Builtin.«zip.__new__» ⟨[.type "zip", .ref l1, .ref l2], []⟩) (fun _ R s => s.heap.IsTuple l1 xs ∧ s.heap.IsTuple l2 ys ∧
      R (.ok (.ret (.ref (zUH4 s.heap l1 l2).objs.size))) { s with heap := zUH5 s.heap l1 l2 }) :=
  .of_wp fun prog w A R s h => by
    obtain ⟨hp, g, d, tk, os⟩ := s; obtain ⟨hl1, hl2, h⟩ := h
    have hsub := sub_zip
    have hL1 : Heap.IsTuple (Shared.heap ⟨hp, g, d, tk, os⟩) l1 xs := hl1
    have hL2 : Heap.IsTuple (Shared.heap ⟨hp.push { cls := .type "tuple_iterator", data := .fields #[.ref l1, .int 0 0] }, g, d, tk, os⟩) l2 ys := let ⟨o, ho, r⟩ := hl2; ⟨o, Heap.get?_push_of_some _ ho, r⟩
    wp_walk using wpAny_pyIter_tuple hL1, wpAny_pyIter_tuple hL2
    exact ⟨_, rfl, h⟩
section
variable {prog : Program} {w : World} {A : Around} {E : Value → Shared → Prop} {s : Shared}
theorem call_zipTT {l1 l2 : Addr} {xs ys : Array Value} {Q : Value → Shared → Prop} (hl1 : s.heap.IsTuple l1 xs) (hl2 : s.heap.IsTuple l2 ys)
    (h : ∀ h', IsZip h' (s.heap.objs.size + 4) (s.heap.objs.size + 2) (s.heap.objs.size + 3) .none → IsPair h' (s.heap.objs.size + 2) (.ref s.heap.objs.size) (.ref (s.heap.objs.size + 1)) →
      IsPair h' (s.heap.objs.size + 3) .none .none → h'.IsTupleIter s.heap.objs.size l1 0 → h'.IsTupleIter (s.heap.objs.size + 1) l2 0 → h'.objs.size = s.heap.objs.size + 5 →
      (∀ c o, s.heap.get? c = some o → h'.get? c = some o) → Q (.ref (s.heap.objs.size + 4)) { s with heap := h' }) :
    wpAny (model prog w) A (call (.type "zip") [.ref l1, .ref l2]) Q E s := by
  refine callType_new F.called_zip (by decide) (F.typeCall_zip_2 _ _) (F.newCall_zip_2 _ _) (fun obj => F.args_object_init_3 obj _ _) F.entry_zip_new
    (meets_zip_newTT l1 l2 xs ys) ⟨hl1, hl2, ?_⟩
  have z1 : (zUH1 s.heap l1).objs.size = s.heap.objs.size + 1 := Heap.size_push ..
  have z2 : (zUH2 s.heap l1 l2).objs.size = s.heap.objs.size + 2 := by rw [Heap.size_push, z1]
  have z3 : (zUH3 s.heap l1 l2).objs.size = s.heap.objs.size + 3 := by rw [Heap.size_push, z2]
  have z4 : (zUH4 s.heap l1 l2).objs.size = s.heap.objs.size + 4 := by rw [Heap.size_push, z3]
  have z5 : (zUH5 s.heap l1 l2).objs.size = s.heap.objs.size + 5 := by rw [Heap.size_push, z4]
  have g5 : (zUH5 s.heap l1 l2).get? (zUH4 s.heap l1 l2).objs.size = some _ := Heap.get?_push_size _ rfl
  have g4 : (zUH5 s.heap l1 l2).get? (zUH3 s.heap l1 l2).objs.size = some _ := Heap.get?_push_of_some _ (Heap.get?_push_size _ rfl)
  have g3 : (zUH5 s.heap l1 l2).get? (zUH2 s.heap l1 l2).objs.size = some _ := Heap.get?_push_of_some _ (Heap.get?_push_of_some _ (Heap.get?_push_size _ rfl))
  have g2 : (zUH5 s.heap l1 l2).get? (zUH1 s.heap l1).objs.size = some _ := Heap.get?_push_of_some _ (Heap.get?_push_of_some _ (Heap.get?_push_of_some _ (Heap.get?_push_size _ rfl)))
  have g1 : (zUH5 s.heap l1 l2).get? s.heap.objs.size = some _ := Heap.get?_push_of_some _ (Heap.get?_push_of_some _ (Heap.get?_push_of_some _ (Heap.get?_push_of_some _ (Heap.get?_push_size _ rfl))))
  show _ ∧ _
  rw [z2, z3, z4] at g5
  rw [z1, z2] at g3
  rw [z3] at g4
  rw [z1] at g2
  rw [z4]
  exact ⟨⟨_, g5, rfl⟩, h _ g5 g3 g4 ⟨_, g1, rfl, rfl⟩ ⟨_, g2, rfl, rfl⟩ z5 fun c o x =>
    Heap.get?_push_of_some _ (Heap.get?_push_of_some _ (Heap.get?_push_of_some _ (Heap.get?_push_of_some _ (Heap.get?_push_of_some _ x))))⟩
end
end PySem
namespace L2
open PySem PySem.Spec PyProof.Rows
def Ity (K : PySem.W.Frag) (a c : Addr) : It :=
  ⟨fun i H => ∃ xs ys x y, SqT K H a xs ∧ SqT K H c ys ∧ xs[i]? = some x ∧ ys[i]? = some y,
   fun i H x H' => ∃ T u v, x = .ref T ∧ H T = none ∧ H' = upd H T (.tup [u, v]) ∧ (∀ xs, SqT K H a xs → xs[i]? = some u) ∧ ∀ ys, SqT K H c ys → ys[i]? = some v,
   fun i H => ∃ xs ys, SqT K H a xs ∧ SqT K H c ys ∧ (xs.length ≤ i ∨ ys.length ≤ i)⟩
structure ZSy (h : Heap) (z TI TO i1 i2 a c : Addr) (i : Nat) : Prop where
  zip : IsZip h z TI TO .none
  ti : IsPair h TI (.ref i1) (.ref i2)
  to : ∃ u v, IsPair h TO u v
  it1 : h.IsTupleIter i1 a i
  it2 : h.IsTupleIter i2 c i
theorem turn_zipT {P : Program} {w : World} {K : PySem.W.Frag} {elts : List Expr} {x1 : Nat} {pos : Pos} (z TI TO i1 i2 a c : Addr) (D : ZipApart z TI TO i1 i2 a c) :
    Turn P w K (.Tuple elts x1 pos) (Ity K a c) [z, TI, TO, i1, i2] z (fun i h => ZSy h z TI TO i1 i2 a c i) where
  mem := by simp
  obj := fun i h st b hb => by
    obtain ⟨hz, hTI, ⟨u, v, hTO⟩, ⟨o1, e1, c1, d1⟩, ⟨o2, e2, c2, d2⟩⟩ := st
    simp only [List.mem_cons, List.not_mem_nil, or_false] at hb
    rcases hb with rfl | rfl | rfl | rfl | rfl
    · exact ⟨_, hz, fun v z => nomatch z⟩
    · exact ⟨_, hTI, fun v z => nomatch z⟩
    · exact ⟨_, hTO, fun v z => nomatch z⟩
    · exact ⟨o1, e1, fun v z => by rw [d1] at z; cases z⟩
    · exact ⟨o2, e2, fun v z => by rw [d2] at z; cases z⟩
  keep := fun i h h' st k => by
    obtain ⟨hz, hTI, ⟨u, v, hTO⟩, ⟨o1, e1, r1⟩, ⟨o2, e2, r2⟩⟩ := st
    exact ⟨k z (by simp) _ hz, k TI (by simp) _ hTI, ⟨u, v, k TO (by simp) _ hTO⟩, ⟨o1, k i1 (by simp) _ e1, r1⟩, ⟨o2, k i2 (by simp) _ e2, r2⟩⟩
  item := by
    intro X hP hw hK hc i pins s σ H E I hf st hg
    subst hP hw hK
    obtain ⟨xs, ys, x, y, hqa, hqc, hx, hy⟩ := hg
    obtain ⟨its, rv, p, hz⟩ := I.tuple hqa
    obtain ⟨jts, rw', pl, hz2⟩ := I.tuple hqc
    obtain ⟨u, hu, ru⟩ := rv.get hx
    obtain ⟨v, hv, rv'⟩ := rw'.get hy
    obtain ⟨hz, hTI, ⟨u0, v0, hTO⟩, h1, h2⟩ := st
    refine wpAny_pyNext_zipTT_item D hz hTI hTO h1 h2 (show s.heap.IsTuple a its.toArray from p) (show s.heap.IsTuple c jts.toArray from pl) (by simpa using hu) (by simpa using hv) fun h' a1 a2 a3 a4 a5 a6 hk => ?_
    have I1 : Inv X pins σ H { s with heap := h' } := I.turnedL (t' := s.toks) (ch := [z, TI, TO, i1, i2]) (fun b o hb q => hk b o (fun z => hb (by simp [z])) (fun z => hb (by simp [z])) (fun z => hb (by simp [z])) (fun z => hb (by simp [z])) q) fun b hb => hf b hb
    refine ⟨_, rfl, wpAny_letOwnedTupleGo_zip (s := { s with heap := h' }) a1 fun h2' hz2' sb => ?_⟩
    have I2 : Inv X pins σ H { s with heap := h2' } := Inv.turnedL (s := { s with heap := h' }) (t' := s.toks) (ch := [z]) I1 (fun b o hb q => (sb.2 b (fun z => hb (by simp [z]))).trans q) fun b hb => by rw [List.mem_singleton.mp hb]; exact hf z (by simp)
    have hn : H s.heap.objs.size = none := I.hok.fresh (Nat.le_refl _)
    have fT : FpOk X pins H s.heap.objs.size := I.fpOk (Nat.le_refl _) hn
    have hzT : s.heap.objs.size ≠ z := Nat.ne_of_gt (Heap.lt_size hz)
    have hT2 : h2'.get? s.heap.objs.size = some { cls := .type "tuple", data := .seq #[u, v] } := (sb.2 _ hzT).trans a5
    obtain ⟨o1, e1, r1⟩ := a3
    obtain ⟨o2, e2, r2⟩ := a4
    refine ⟨.ref s.heap.objs.size, upd H s.heap.objs.size (.tup [x, y]), I2.track fT I.sz ⟨le1000 rfl, [u, v], .cons ru (.cons rv' .nil), ⟨_, hT2, rfl, _, rfl⟩⟩, rfl,
      ⟨_, x, y, rfl, hn, rfl, fun zs hs => by rw [I.tuple_inj hs hqa]; exact hx, fun zs hs => by rw [I.tuple_inj hs hqc]; exact hy⟩,
      ⟨hz2', (sb.2 _ D.TIz).trans (hk _ _ D.TIz D.TITO D.TIi1 D.TIi2 hTI), ⟨_, _, (sb.2 _ D.TOz).trans a2⟩, ⟨o1, (sb.2 _ D.i1z).trans e1, r1⟩, ⟨o2, (sb.2 _ D.i2z).trans e2, r2⟩⟩, fun b hb => ?_⟩
    have fb := (hf b hb).1
    rw [upd_ne]
    · exact fb
    · intro e
      have : ∃ o, s.heap.get? b = some o := by
        simp only [List.mem_cons, List.not_mem_nil, or_false] at hb
        rcases hb with rfl | rfl | rfl | rfl | rfl
        · exact ⟨_, hz⟩
        · exact ⟨_, hTI⟩
        · exact ⟨_, hTO⟩
        · obtain ⟨o, q, _⟩ := h1; exact ⟨o, q⟩
        · obtain ⟨o, q, _⟩ := h2; exact ⟨o, q⟩
      obtain ⟨o, q⟩ := this
      rw [e] at q
      exact Nat.lt_irrefl _ (Heap.lt_size q)
  done := by
    intro X hP hw hK hc i pins s σ H E I hf st hg
    subst hP hw hK
    obtain ⟨xs, ys, hqa, hqc, hend⟩ := hg
    obtain ⟨its, rv, p, hz⟩ := I.tuple hqa
    obtain ⟨jts, rw', pl, hz2⟩ := I.tuple hqc
    have l1 := rv.length
    have l2 := rw'.length
    obtain ⟨hz, hTI, ⟨u0, v0, hTO⟩, h1, h2⟩ := st
    refine wpAny_pyNext_zipTT_end (I.ok.hd hc) D hz hTI hTO h1 h2 (show s.heap.IsTuple a its.toArray from p) (show s.heap.IsTuple c jts.toArray from pl) ?_ fun h' hk => ⟨rfl, I.turnedL (t' := s.toks) (ch := [z, TI, TO, i1, i2]) (fun b o hb q => hk b o (fun z => hb (by simp [z])) (fun z => hb (by simp [z])) (fun z => hb (by simp [z])) (fun z => hb (by simp [z])) q) fun b hb => hf b hb⟩
    rcases hend with q | q
    · exact .inl (by simp; omega)
    · exact .inr (by simp; omega)
  self := fun _ _ _ _ _ st h => wpAny_pyIter_zip st.zip h
def iZipT (K : PySem.W.Frag) (ta : TA) : TI := fun σ H R => ta σ H fun vs H1 => ∃ a c, vs = [.ref a, .ref c] ∧ (∃ xs, SqT K H1 a xs) ∧ (∃ ys, SqT K H1 c ys) ∧ R (Ity K a c) H1
theorem pi_zipT {X : Cx} {elts : List Expr} {x1 : Nat} {tpos : Pos} {a b : Expr} {ta : TA} {p pos : Pos} (hg : Gl X "zip") (hm : X.mg "zip" = none) (ha : PA X [a, b] ta) (hpl : plainE a = true) (hpl2 : plainE b = true) : PI X (.Tuple elts x1 tpos) (.Call (.Name "zip" p) [a, b] [] pos) (iZipT X.K ta) := by
  intro pins s σ H R I h
  refine Call_ (ld_blt I hg hm boot_zip (PyProof.Rows.callWith_type1 (thn (ha pos pins s σ H _ I h) fun us s1 ⟨vs, H1, I1, r1, q1⟩ => ?_) (star_cons hpl) (star_any (by simp [hpl2]))))
  obtain ⟨a', c', e, ⟨xs, hqa⟩, ⟨ys, hqc⟩, q⟩ := q1
  subst e
  obtain ⟨u, u', rfl, ru, ru'⟩ := vals2 r1
  cases (show u = Value.ref a' from ru)
  cases (show u' = Value.ref c' from ru')
  obtain ⟨its, rv, pt, hz⟩ := I1.tuple hqa
  obtain ⟨jts, rw', pl, hz2⟩ := I1.tuple hqc
  have ht : s1.heap.IsTuple a' its.toArray := pt
  have la : a' < s1.heap.objs.size := by obtain ⟨_, e, _⟩ := ht; exact Heap.lt_size e
  have lc : c' < s1.heap.objs.size := by obtain ⟨_, e, _⟩ := (show s1.heap.IsTuple c' jts.toArray from pl); exact Heap.lt_size e
  refine call_zipTT ht (show s1.heap.IsTuple c' jts.toArray from pl) fun h' hz hTI hTO h1 h2 hsz hk => ?_
  have I2 : Inv X pins σ H1 { s1 with heap := h' } := I1.kept (t' := s1.toks) hk
  refine wpAny_pyIter_zip (s := { s1 with heap := h' }) hz ?_
  refine ⟨s1.heap.objs.size + 4, [s1.heap.objs.size + 4, s1.heap.objs.size + 2, s1.heap.objs.size + 3, s1.heap.objs.size, s1.heap.objs.size + 1], _, _, H1, rfl, I2,
    turn_zipT _ _ _ _ _ a' c' (zipApart_new la lc), ⟨hz, hTI, ⟨_, _, hTO⟩, h1, h2⟩, fun b hb => ?_, q⟩
  have hle : s1.heap.objs.size ≤ b := by
    simp only [List.mem_cons, List.not_mem_nil, or_false] at hb
    rcases hb with rfl | rfl | rfl | rfl | rfl
    · exact Nat.le_add_right _ _
    · exact Nat.le_add_right _ _
    · exact Nat.le_add_right _ _
    · exact Nat.le_refl _
    · exact Nat.le_add_right _ _
  exact I1.fpOk hle (I1.hok.fresh hle)
end L2
set_option Elab.async false
set_option linter.all false
set_option maxRecDepth 100000
set_option maxHeartbeats 4000000
namespace L2
open PySem PySem.Spec PyProof.Rows PySem.SeqAt
def nIs : Option Int → Value → Bool
  | Option.none, Value.none => true
  | some k, v => Value.isInt k v
  | _, _ => false
def nH : Option Int → Int
  | Option.none => 0xFCA86420
  | some k => hashInt k
theorem nIs_shape {k : Option Int} {v : Value} (h : nIs k v = true) : (k = Option.none ∧ v = Value.none) ∨ ∃ i t, k = some i ∧ v = Value.int i t := by
  cases k with
  | none =>
    cases v <;> first | exact .inl ⟨rfl, rfl⟩ | cases h
  | some i =>
    obtain ⟨t, e⟩ := Value.isInt_shape (k := i) (v := v) h
    exact .inr ⟨i, t, rfl, e⟩
section
variable {prog : Program} {w : World} {A : Around} {E : Value → Shared → Prop} {s : Shared}
theorem pyHash_none {Q : Int → Shared → Prop} (h : Q 0xFCA86420 { s with toks := s.toks + 1 }) : wpAny (model prog w) A (pyHash .none) Q E s := by
  have hT : s.TypeIs .none "NoneType" := rfl
  unfold pyHash
  have hv : [Value.none].any Value.onHeap = false := rfl
  show wpAny _ _ (pyHashByItsType .none) _ _ _
  unfold pyHashByItsType
  refine wpAny_bind ?_
  rw [cRoomFor, if_neg (by rw [hv]; exact Bool.false_ne_true)]
  refine wpAny_pure ?_
  refine wpAny_bind (wpAny_specialOf hT F.slot_NoneType_hash.lookup ?_)
  show wpAny _ _ (if (some (Value.builtin "NoneType.__hash__") == some Value.none) = true then _ else _) Q E s
  rw [if_neg (by rw [beq_builtin_none]; exact Bool.false_ne_true)]
  refine wpAny_bind (wpAny_specialOf hT F.slot_NoneType_hash.lookup ?_)
  show wpAny _ _ (callSpecialIfBoundUnlessNone? .none "__hash__" _ >>= _) Q E s
  refine wpAny_bind (wpAny_callSpecialIfBoundUnlessNone?_slot hT F.slot_NoneType_hash
    (wpAny_call_entry F.slot_NoneType_hash hT F.entry_NoneType_hash
      (show wpAny _ _ (do ret (← mkInt 0xFCA86420)) _ _ s from wpAny_ret_mkInt ?_) (F.args_NoneType_hash_1 _)))
  show wpAny _ _ (if (decide (-(2 : Int) ^ 63 ≤ 0xFCA86420) && decide ((0xFCA86420 : Int) < 2 ^ 63)) = true then _ else _) Q E _
  rw [if_pos (by decide)]
  exact wpAny_pure h
end
def nKind (prog : Program) (w : World) : PySem.KeyKind prog w (Option Int) where
  is := nIs
  hash := nH
  inj := fun v a b ha hb => by
    rcases nIs_shape ha with ⟨rfl, rfl⟩ | ⟨i, t, rfl, rfl⟩
    · rcases nIs_shape hb with ⟨rfl, _⟩ | ⟨j, u, rfl, e⟩
      · rfl
      · cases e
    · rcases nIs_shape hb with ⟨rfl, e⟩ | ⟨j, u, rfl, e⟩
      · cases e
      · injection e with e1 _; rw [e1]
  byValue := fun k v h => by
    rcases nIs_shape h with ⟨rfl, rfl⟩ | ⟨i, t, rfl, rfl⟩ <;> rfl
  pyHash := fun hv h => by
    rcases nIs_shape hv with ⟨rfl, rfl⟩ | ⟨i, t, rfl, rfl⟩
    · exact pyHash_none h
    · exact wpAny_pyHash_int h
  eqBool := fun {A E s a b u v Q} hu hv h => by
    rcases nIs_shape hu with ⟨rfl, rfl⟩ | ⟨i, t, rfl, rfl⟩
    · rcases nIs_shape hv with ⟨rfl, rfl⟩ | ⟨j, u, rfl, rfl⟩
      · exact EqAt.same _ _ _ _ _ (by simpa using h)
      · exact EqAt.none_int j u _ _ _ _ (by simpa using h)
    · rcases nIs_shape hv with ⟨rfl, rfl⟩ | ⟨j, u, rfl, rfl⟩
      · exact EqAt.int_none i t _ _ _ _ (by simpa using h)
      · have e : decide (some i = some j) = (i == j) := by
          by_cases z : i = j
          · subst z; simp
          · rw [decide_eq_false (fun q => z (Option.some.inj q))]; exact (beq_eq_false_iff_ne.mpr z).symm
        rw [e] at h
        exact wpAny_eqBool_int h
  «strs» := fun k x t v h => by
    rcases nIs_shape h with ⟨rfl, e⟩ | ⟨i, u, rfl, e⟩
    · cases e
    · cases e
end L2
set_option Elab.async false
set_option linter.all false
set_option maxRecDepth 100000
set_option maxHeartbeats 4000000
namespace PySem
open Sem (wp)
theorem lk_list_keys : typeLookup (.type "list") "keys" = pure none := by rw [typeLookup_type, builtinLookup_eq_fast]; kernel_rfl
section
variable {prog : Program} {w : World} {A : Around} {E : Value → Shared → Prop} {s : Shared}
theorem keys_miss_list {a : Addr} {o : Obj} {xs : Array Value} {k : Nat} {Q : Option Value → Shared → Prop} (hx : s.heap.get? a = some o) (hc : o.cls = .type "list") (hdat : o.data = .seq xs k) (hd : o.dict = none) (hA : A.handled = none)
    (h : ∀ h' tk, (∀ b o, s.heap.get? b = some o → h'.get? b = some o) → Q none { s with heap := h', toks := tk }) : wpAny (model prog w) A (getAttr? (.ref a) "keys") Q E s := by
  obtain ⟨c, dct, dat, sl⟩ := o
  simp only at hc hdat hd
  subst hc hdat hd
  obtain ⟨hp, g, d, tk, os⟩ := s
  have hT : ∀ tk', (⟨hp, g, d, tk', os⟩ : Shared).TypeIs (.ref a) "list" := fun _ => ⟨_, hx, rfl⟩
  have f1 := sub_AttributeError
  have f3 := F.slot_list_getattribute.lookup
  have f4 := F.slot_list_getattribute.bind (.ref a)
  have f5 := am_list_getattr_none
  have hm := lk_list_keys
  unfold getAttr? getAttrBy? getAttrBy
  repeat (any_goals (first | assumption | exact hT _ | ((with_reducible show wpAny _ _ (call (Value.builtin "list.__getattribute__") _ _) _ _ _); refine call_meets F.slot_list_getattribute (hT _) am_entry_list_getattribute (F.args_list_getattribute_2 _ _) (meets_getattribute_miss_list a xs k sl "keys" _ hm (by decide +kernel) (by size_fits)) ⟨hx, hA, fun h' tk' e hx' => ?_⟩) | wp_step))
  obtain ⟨t', u', he⟩ := hx'.there
  have hTe : ∀ tk', (⟨h', g, d, tk', os⟩ : Shared).TypeIs (.ref e) "AttributeError" := fun _ => ⟨_, he, rfl⟩
  show wpAny _ _ (getattributeRaised _ _ _ _ _ _ _) _ _ _
  unfold getattributeRaised
  repeat (any_goals (first | assumption | exact hTe _ | wp_step))
  exact h _ _ hx'.keeps
end
end PySem
set_option Elab.async false
set_option linter.all false
set_option maxRecDepth 100000
set_option maxHeartbeats 4000000
namespace DictL
open PySem PySem.Spec PyProof.Rows
theorem entry_loop : entryFor table "dict.update.loop" = some Builtin.«dict.update.loop» := entryFor_of_tree (by kernel_rfl)
theorem plain_loop : plainId "dict.update.loop" = true := by decide +kernel
section
variable {prog : Program} {w : World} {K : Type} [DecidableEq K] {knd : KeyKind prog w K} {A : Around} {R : Result → Shared → Prop} {I : Addr} {fp wr : List Addr} {G : Array GenState → Array GenState → Prop} {n : Nat} {P : Nat → Value → Prop} {St : Nat → Shared → Prop}
def upTo (kv : Nat → K × Value) (i : Nat) : List (K × Value) := ((List.range i).map kv).foldl (fun acc p => stored acc p.1 p.2) []
theorem upTo_succ (kv : Nat → K × Value) (i : Nat) : upTo kv (i + 1) = stored (upTo kv i) (kv i).1 (kv i).2 := by
  unfold upTo; rw [List.range_succ, List.map_append, List.foldl_append]; rfl
theorem stored_len (kvs : List (K × Value)) (k : K) (v : Value) : (stored kvs k v).length ≤ kvs.length + 1 := by
  unfold stored
  split
  · rw [List.length_map]; omega
  · rw [List.length_append]; exact Nat.le_refl _
theorem upTo_len (kv : Nat → K × Value) : ∀ i, (upTo kv i).length ≤ i
  | 0 => Nat.le_refl _
  | i + 1 => by
    rw [upTo_succ]
    have := upTo_len kv i
    have := stored_len (upTo kv i) (kv i).1 (kv i).2
    omega
def PairAt (knd : KeyKind prog w K) (h : Heap) (b : Addr) (p : K × Value) : Prop := ∃ o key m, h.get? b = some o ∧ o.cls = .type "tuple" ∧ o.data = .seq #[key, p.2] m ∧ knd.is p.1 key = true
theorem loop (W : WalksS prog w A.in1 I fp wr G n P St) (D : Addr) (hDf : D ∉ fp) (kv : Nat → K × Value) (hb : n ≤ 1000) :
    ∀ (k i : Nat) (s : Shared), n - i = k → i ≤ n → St i s → (∀ (j : Nat) v, P j v → ∃ b, v = .ref b ∧ PairAt knd s.heap b (kv j) ∧ b ∉ D :: wr) →
      s.heap.DictOf knd D (upTo kv i) →
      (∀ s', Moved (D :: wr) G s s' → s'.heap.DictOf knd D (upTo kv n) → R (.ok (.ret .none)) s') →
      codeAny (model prog w) A (.builtin "dict.update.loop" ⟨[.ref D, .ref I, rawInt i, .none], []⟩) R s := by
  have hDw : D ∉ wr := fun h => hDf (W.sub _ h)
  have hsub : ∀ b ∈ wr, b ∈ D :: wr := fun b hb => List.mem_cons_of_mem _ hb
  have keepD : ∀ {s s' : Shared} {kvs : List (K × Value)}, (∀ b o, b ∉ wr → s.heap.get? b = some o → s'.heap.get? b = some o) → s.heap.DictOf knd D kvs → s'.heap.DictOf knd D kvs := by
    intro s s' kvs hk hS
    obtain ⟨o, es, ep, ho, r⟩ := hS
    exact ⟨o, es, ep, hk D o hDw ho, r⟩
  intro k
  induction k with
  | zero =>
    intro i s hk hi hst hv hS hR
    have hin : i = n := by omega
    subst hin
    refine codeAny_builtin entry_loop ?_
    rw [Around.under_plainId plain_loop _]
    show wpAny _ A.in1 (pyNext (.ref I) >>= _) _ _ s
    refine wpAny_bind (W.done s _ _ hst fun s' hm => ?_)
    show wpAny _ A.in1 (Builtin.Dict.addKeywords D [] >>= _) _ _ s'
    exact wpAny_bind (wpAny_pure (wpAny_pure (hR s' (hm.mono hsub) (keepD hm.heap hS))))
  | succ k ih =>
    intro i s hk hi hst hv hS hR
    have hlt : i < n := by omega
    refine codeAny_builtin entry_loop ?_
    rw [Around.under_plainId plain_loop _]
    show wpAny _ A.in1 (pyNext (.ref I) >>= _) _ _ s
    refine wpAny_bind (W.item i s _ _ hlt hst fun v s' hP hst' hm => ?_)
    obtain ⟨b, rfl, hp, hbn⟩ := hv i v hP
    have hbw : b ∉ wr := fun z => hbn (hsub b z)
    have hS' := keepD hm.heap hS
    obtain ⟨o, key, m, ho, hc, hd, hk'⟩ := hp
    have ho' := hm.heap b o hbw ho
    have hT : s'.TypeIs (.ref b) "tuple" := ⟨o, ho', hc⟩
    show wpAny _ A.in1 (holding [Value.ref b] _ >>= _) _ _ s'
    refine wpAny_bind (wpAny_holding ?_)
    refine wpAny_bind ?_
    refine wpAny_tryCatch ?_
    unfold Builtin.Dict.pairItems
    refine wpAny_bind (wpAny_typeOf hT ?_)
    rw [if_pos (by decide)]
    refine wpAny_bind (wpAny_seqItems ho' hd ?_)
    refine wpAny_pure ?_
    show wpAny _ A.in1 (holding [key, (kv i).2] (dictSet D key (kv i).2)) _ _ s'
    refine wpAny_holding ?_
    have hlen := upTo_len kv i
    refine wpAny_dictSet_pairs (hsz := L2.leMil (by omega)) hk' hS' fun h' hD' hsb => ?_
    rw [← upTo_succ] at hD'
    refine wpAny_pure ⟨plainId_quiet plain_loop _, ?_⟩
    show codeAny _ A (.builtin "dict.update.loop" ⟨[.ref D, .ref I, rawInt ((i + 1 : Nat) : Int), .none], []⟩) R _
    refine ih (i + 1) _ (by omega) hlt (W.frame _ s' _ _ hst' (Nat.le_add_right _ _) fun c hc' o' e => ?_) (fun j v hj => ?_) hD' fun s'' hm'' hS'' => ?_
    · rw [hsb.2 c (fun h : c = D => hDf (by rw [← h]; exact hc'))]; exact e
    · obtain ⟨b2, e2, ⟨ob, key2, m2, h1, h2⟩, hn2⟩ := hv j v hj
      refine ⟨b2, e2, ⟨ob, key2, m2, ?_, h2⟩, hn2⟩
      exact (hsb.2 b2 (fun h : b2 = D => hn2 (by rw [h]; exact List.mem_cons_self))).trans (hm.heap b2 ob (fun z => hn2 (hsub b2 z)) h1)
    · refine hR s'' (Moved.trans W.gtrans ((hm.mono hsub).then_heap (Nat.le_add_right _ _) fun c o' hc' e => ?_) hm'') hS''
      rw [hsb.2 c (fun h : c = D => hc' (by rw [h]; exact List.mem_cons_self))]; exact e
end
section
variable {prog : Program} {w : World} {K : Type} [DecidableEq K] {knd : KeyKind prog w K} {A : Around} {E : Value → Shared → Prop} {s : Shared}
theorem call_dict_list {l : Addr} {items : Array Value} {kv : Nat → K × Value} {Q : Value → Shared → Prop} (hh : A.handled = none) (hl : ∃ o m, s.heap.get? l = some o ∧ o.cls = .type "list" ∧ o.dict = none ∧ o.data = .seq items m)
    (hi : ∀ (i : Nat) (v : Value), items[i]? = some v → ∃ b, v = .ref b ∧ PairAt knd s.heap b (kv i)) (hb : items.size ≤ 1000)
    (h : ∀ (h' : Heap) (tk : Nat), h'.DictOf knd s.heap.objs.size (upTo kv items.size) → (∀ b o, s.heap.get? b = some o → h'.get? b = some o) → Q (.ref s.heap.objs.size) { s with heap := h', toks := tk }) :
    wpAny (model prog w) A (call (.type "dict") [.ref l]) Q E s := by
  obtain ⟨ol, ml, hol, hcl, hdl, hsl⟩ := hl
  refine callType_codes (Q₁ := fun obj s₁ => obj = .ref s.heap.objs.size ∧ s₁ = { s with heap := s.heap.push { cls := .type "dict", data := .dict #[] } }) F.kt_called_dict (F.kt_typeCall_dict_1 _) F.entry_dict_init (kt_code_dict_new _ ⟨rfl, rfl⟩) ?_
  rintro obj s₁ ⟨rfl, rfl⟩
  have hnew : (s.heap.push { cls := .type "dict", data := .dict #[] }).DictOf knd s.heap.objs.size [] := Heap.DictOf.new s.heap
  have hol' : (s.heap.push { cls := .type "dict", data := .dict #[] }).get? l = some ol := Heap.get?_push_of_some _ hol
  refine ⟨hnew.typeIs, F.args_dict_init_2 _ _, ?_⟩
  unfold Builtin.«dict.__init__»
  refine wpAny_bind ?_
  unfold Builtin.Dict.selfAndRest
  refine wpAny_bind (wpAny_notOrdered_dict hnew.typeIs ?_)
  show wpAny _ _ (pure (s.heap.objs.size, [Value.ref l])) _ _ _
  refine wpAny_pure ?_
  show wpAny _ _ (Builtin.Dict.updateFrom "dict.__init__" s.heap.objs.size (.ref l) [] .none) _ _ _
  unfold Builtin.Dict.updateFrom
  refine wpAny_bind (wpAny_typeOf (show Shared.TypeIs _ (.ref l) "list" from ⟨ol, hol', hcl⟩) ?_)
  rw [if_pos (by decide)]
  refine wpAny_bind (keys_miss_list hol' hcl hsl hdl (by simp [hh]) fun h1 tk1 k1 => ?_)
  rw [if_pos (show (Option.isNone (none : Option Value)) = true from rfl)]
  refine wpAny_bind (wpAny_rule ?_)
  have hol1 := k1 _ _ hol'
  have hl1 : h1.IsList l items := ⟨ol, hol1, hcl, ml, hsl⟩
  refine wpAny_bind (wpAny_pyIter_list hl1 ?_)
  have hD1 : ∀ o, s.heap.get? s.heap.objs.size = some o → False := fun o e => absurd (Heap.lt_size e) (Nat.lt_irrefl _)
  have hDI : s.heap.objs.size < h1.objs.size := by
    obtain ⟨o, _, _, ho, _⟩ := hnew
    exact Heap.lt_size (k1 _ _ ho)
  have hlI : l < h1.objs.size := Heap.lt_size hol1
  have hlD : l < s.heap.objs.size := Heap.lt_size hol
  have up : ∀ b o, s.heap.get? b = some o → (h1.push { cls := .type "list_iterator", data := .fields #[.ref l, .int 0 0] }).get? b = some o := fun b o e => Heap.get?_push_of_some _ (k1 _ _ (Heap.get?_push_of_some _ e))
  refine wpAny_pure ⟨plainId_quiet plain_loop _, ?_⟩
  have hh2 : A.in1.in1.handled = none := by simp [hh]
  refine loop (knd := knd) ((Walks.list hh2 h1.objs.size l (Nat.ne_of_lt hlI) items).toS) s.heap.objs.size ?hf kv hb (items.size - 0) 0 _ (by omega) (Nat.zero_le _)
    ⟨⟨_, Heap.get?_push_size _ rfl, rfl, rfl⟩, (hl1.push _)⟩ (fun i v hv => ?hval) ?hS0 ?hR
  case hf =>
    simp only [List.mem_cons, List.mem_singleton, List.not_mem_nil, or_false, not_or]
    exact ⟨Nat.ne_of_lt hDI, Nat.ne_of_gt hlD⟩
  case hval =>
    obtain ⟨b, e, o, key, m, h1', h2'⟩ := hi i v hv
    have hbs : b < s.heap.objs.size := Heap.lt_size h1'
    refine ⟨b, e, ⟨o, key, m, up _ _ h1', h2'⟩, ?_⟩
    simp only [List.mem_cons, List.mem_singleton, List.not_mem_nil, or_false, not_or]
    exact ⟨Nat.ne_of_lt hbs, Nat.ne_of_lt (Nat.lt_trans hbs hDI)⟩
  case hS0 =>
    obtain ⟨o, es, ep, ho, r⟩ := hnew
    exact ⟨o, es, ep, Heap.get?_push_of_some _ (k1 _ _ ho), r⟩
  case hR =>
    intro s' hm hS'
    obtain ⟨h', g', d', tk', os'⟩ := s'
    have eg : g' = s.gens := hm.gens
    have ed : d' = s.drawn := hm.drawn
    have eo : os' = s.os := hm.os
    subst eg; subst ed; subst eo
    refine ⟨rfl, h h' tk' hS' fun b o e => ?_⟩
    have hbs : b < s.heap.objs.size := Heap.lt_size e
    exact hm.heap b o (by simp only [List.mem_cons, List.mem_singleton, List.not_mem_nil, or_false, not_or]; exact ⟨Nat.ne_of_lt hbs, Nat.ne_of_lt (Nat.lt_trans hbs hDI)⟩) (up b o e)
end
end DictL
set_option Elab.async false
set_option linter.all false
set_option maxRecDepth 100000
set_option maxHeartbeats 4000000
namespace L2
open PySem PySem.Spec PyProof.Rows
def nV : Option Int → V
  | Option.none => .non
  | some i => .int i
theorem nV_is {P : Program} {w : World} {k : Option Int} {u : Value} (r : RelV (nV k) u) : (nKind P w).is k u = true := by
  cases k with
  | none => cases (show u = Value.none from r); rfl
  | some i =>
    obtain ⟨t, rfl⟩ := (show ∃ t, u = Value.int i t from r)
    show Value.isInt i (.int i t) = true
    simp [Value.isInt]
def dnHO (P : Program) (w : World) (a : Addr) (kvs : List (Option Int × V)) : HO := .ext fun h => kvs.length ≤ sizeLine ∧ (a == sysModules) = false ∧ ∃ vs, KV kvs vs ∧ h.DictOf (nKind P w) a vs
theorem dn_ok {P : Program} {w : World} {H : Hp} {h : Heap} {a : Addr} {kvs : List (Option Int × V)} {vs : List (Option Int × Value)} (z : kvs.length ≤ sizeLine) (hd : (a == sysModules) = false) (rel : KV kvs vs) (dd : h.DictOf (nKind P w) a vs) : ObjOk P w H h a (dnHO P w a kvs) := by
  refine ⟨⟨z, hd, vs, rel, dd⟩, let ⟨o, _, _, ho, _⟩ := dd; ⟨o, ho⟩, fun h1 h2 x k => ?_⟩
  obtain ⟨z1, z2, vs', r', o, es, ep, ho, r⟩ := x
  exact ⟨z1, z2, vs', r', o, es, ep, k o ho, r⟩
section
variable {X : Cx}
theorem dn_of {pins : List (Addr × Obj)} {σ : St} {H : Hp} {s : Shared} {a : Addr} {kvs : List (Option Int × V)} (I : Inv X pins σ H s) (e : H a = some (dnHO X.prog X.w a kvs)) : kvs.length ≤ sizeLine ∧ (a == sysModules) = false ∧ ∃ vs, KV kvs vs ∧ s.heap.DictOf (nKind X.prog X.w) a vs := (I.hok a _ e).1
def tDNotInN (P : Program) (w : World) (ty td : TE) : TE := fun σ H Q => ty σ H fun y H1 => td σ H1 fun x H2 => ∃ a kvs k, x = .ref a ∧ y = nV k ∧ H2 a = some (dnHO P w a kvs) ∧ Q (.bl (!(valV kvs k).isSome)) H2
theorem pc_dnotinN {i o : Expr} {ty td : TE} (hi : PE X i ty) (ho : PE X o td) : PC X .NotIn i o (tDNotInN X.prog X.w ty td) := by
  intro pins s σ H Q I h
  refine thn (hi pins s σ H _ I h) fun iv s1 ⟨y, H1, I1, ry, q1⟩ => thn (ho pins s1 σ H1 _ I1 q1) fun u s2 ⟨x, H2, I2, rx, a, kvs, k, ex, ey, e, q2⟩ => ?_
  subst ex ey
  obtain rfl : u = Value.ref a := rx
  obtain ⟨z, hd, vs, rel, dd⟩ := dn_of I2 e
  refine wpAny_notIn_of (nV_is ry) hd dd.mapOf ?_
  rw [← (rel.val k).isSome_eq]
  exact ⟨.bl (!(valV kvs k).isSome), H2, I2.tok _, rfl, q2⟩
def fromPairs (ps : List (Option Int × V)) : List (Option Int × V) := ps.foldl (fun acc p => putK acc p.1 p.2) []
def rDictN (P : Program) (w : World) (K : PySem.W.Frag) : List V → Hp → VK → Prop := fun xs H Q => ∃ p ys, ∃ ps : List (Option Int × V), xs = [.ref p] ∧ SqL K H p ys ∧ ys.length = ps.length ∧ ys.length ≤ 1000 ∧
  (∀ (i : Nat) y pr, ys[i]? = some y → ps[i]? = some pr → ∃ b, y = .ref b ∧ H b = some (.tup [nV pr.1, pr.2])) ∧ ∀ q H', Same H H' → H' q = some (dnHO P w q (fromPairs ps)) → Q (.ref q) H'
theorem fromPairs_len (ps : List (Option Int × V)) : (fromPairs ps).length ≤ ps.length := by
  have key : ∀ (ps acc : List (Option Int × V)), (ps.foldl (fun acc p => putK acc p.1 p.2) acc).length ≤ acc.length + ps.length := by
    intro ps
    induction ps with
    | nil => intro acc; exact Nat.le_refl _
    | cons p ps ih =>
      intro acc
      have h1 := ih (putK acc p.1 p.2)
      have h2 := length_putK acc p.1 p.2
      rw [List.length_cons]
      show (ps.foldl (fun acc p => putK acc p.1 p.2) (putK acc p.1 p.2)).length ≤ _
      omega
  have := key ps []
  simpa [fromPairs] using this
theorem fromPairs_kv {ps : List (Option Int × V)} {kv : Nat → Option Int × Value} (h : ∀ i, (hi : i < ps.length) → (kv i).1 = ps[i].1 ∧ RelV ps[i].2 (kv i).2) : ∀ n, n ≤ ps.length → KV (fromPairs (ps.take n)) (DictL.upTo kv n)
  | 0, _ => .nil
  | n + 1, hn => by
    obtain ⟨h1, h2⟩ := h n (by omega)
    rw [List.take_add_one, List.getElem?_eq_getElem (by omega), DictL.upTo_succ]
    unfold fromPairs
    rw [List.foldl_append]
    have ih := fromPairs_kv h n (by omega)
    show KV (putK (fromPairs (ps.take n)) ps[n].1 ps[n].2) _
    rw [h1]
    exact ih.put _ h2
theorem call_dictN {k : Nat} (hr : Room k X.A) : CallR X (.type "dict") (rDictN X.prog X.w X.K) := by
  intro pins s σ H xs us Q I r h
  obtain ⟨p, ys, ps, rfl, hp, hlen, h1000, hk, q⟩ := h
  obtain ⟨u, rfl, rx⟩ := vals1 r
  cases (show u = Value.ref p from rx)
  obtain ⟨vs, rv, pl, hz⟩ := I.list hp
  have hvl := rv.length
  have ex : ∀ i : Nat, ∃ pr : Option Int × Value, ∀ (hi : i < ps.length), pr.1 = ps[i].1 ∧ RelV ps[i].2 pr.2 ∧ ∀ v, vs[i]? = some v → ∃ b, v = .ref b ∧ DictL.PairAt (nKind X.prog X.w) s.heap b pr := fun i => by
    by_cases hi : i < ps.length
    · have hy : ys[i]? = some ys[i] := List.getElem?_eq_getElem (by omega)
      obtain ⟨b, eb, hb⟩ := hk i _ _ hy (List.getElem?_eq_getElem hi)
      obtain ⟨u2, e2, r2⟩ := rv.get hy
      obtain ⟨_, its, ri, o, ho, hc, n, hd⟩ := I.hok b _ hb
      obtain ⟨u1, u3, rfl, ra, rb⟩ := vals2 ri
      refine ⟨(ps[i].1, u3), fun _ => ⟨rfl, rb, fun v hv => ?_⟩⟩
      rw [hv] at e2
      cases e2
      rw [eb] at r2
      exact ⟨b, r2, o, u1, n, ho, hc, hd, nV_is ra⟩
    · exact ⟨(none, .none), fun h => absurd h hi⟩
  obtain ⟨kv, hkv⟩ := Classical.axiomOfChoice ex
  obtain ⟨o, n, ho, hc, hdn, hd⟩ := pl
  refine DictL.call_dict_list (knd := nKind X.prog X.w) (kv := kv) hr.hd ⟨o, n, ho, hc, hdn, hd⟩ (fun i v hv => ?_) (by rw [List.size_toArray]; omega) fun h' tk hD kp => ?_
  · have hv' : vs[i]? = some v := by simpa using hv
    have hi : i < vs.length := (List.getElem?_eq_some_iff.mp hv').1
    exact (hkv i (by omega)).2.2 v hv'
  · have esz : vs.toArray.size = ps.length := by rw [List.size_toArray]; omega
    rw [esz] at hD
    have rel := fromPairs_kv (ps := ps) (kv := kv) (fun i hi => ⟨(hkv i hi).1, (hkv i hi).2.1⟩) ps.length (Nat.le_refl _)
    rw [List.take_length] at rel
    have hlp := fromPairs_len ps
    refine ⟨.ref s.heap.objs.size, _, I.laid (t' := tk) (o := dnHO X.prog X.w s.heap.objs.size (fromPairs ps)) kp (Nat.le_refl _) ?_, rfl, q _ _ (same_add (I.hok.fresh (Nat.le_refl _))) upd_same⟩
    exact dn_ok (leMil (by omega)) (beq_eq_false_iff_ne.mpr (Ne.symm (Nat.ne_of_lt I.big))) rel hD
theorem fromPairs_in (ps : List (Option Int × V)) (k : Option Int) : (valV (fromPairs ps) k).isSome = true ↔ ∃ p ∈ ps, p.1 = k := by
  have key : ∀ (ps acc : List (Option Int × V)), (valV (ps.foldl (fun acc p => putK acc p.1 p.2) acc) k).isSome = true ↔ (valV acc k).isSome = true ∨ ∃ p ∈ ps, p.1 = k := by
    intro ps
    induction ps with
    | nil => intro acc; exact ⟨.inl, fun h => h.elim id fun ⟨p, hp, _⟩ => by cases hp⟩
    | cons p ps ih =>
      intro acc
      show (valV (ps.foldl (fun acc p => putK acc p.1 p.2) (putK acc p.1 p.2)) k).isSome = true ↔ _
      rw [ih, valV_put]
      by_cases e : k = p.1
      · rw [if_pos e]
        exact ⟨fun _ => .inr ⟨p, .head _, e.symm⟩, fun _ => .inl rfl⟩
      · rw [if_neg e]
        constructor
        · rintro (h | ⟨q, hq, e2⟩)
          · exact .inl h
          · exact .inr ⟨q, .tail _ hq, e2⟩
        · rintro (h | ⟨q, hq, e2⟩)
          · exact .inl h
          · cases hq with
            | head => exact absurd e2.symm e
            | tail _ hq => exact .inr ⟨q, hq, e2⟩
  have := key ps []
  rw [show (fromPairs ps) = ps.foldl (fun acc p => putK acc p.1 p.2) [] from rfl, this]
  exact ⟨fun h => h.elim (fun z => by cases z) id, .inr⟩
end
end L2
set_option Elab.async false
set_option linter.all false
set_option maxRecDepth 100000
set_option maxHeartbeats 4000000
namespace L2
open PySem PySem.Spec PyProof.Rows
theorem same_new {H : Hp} {d : Addr} {o : HO} (h : H d = Option.none) : Same H (upd H d o) := fun b u e => by rw [upd_ne (ne_of_none e h)]; exact e
theorem Same.none {H H' : Hp} (s : Same H H') {d : Addr} (h : H' d = Option.none) : H d = Option.none := by
  cases z : H d with
  | none => rfl
  | some o => rw [s d o z] at h; cases h
theorem Same.wr {H H' : Hp} (s : Same H H') {d : Addr} {o : HO} (h : H d = Option.none) : Same H (upd H' d o) := fun b u e => by rw [upd_ne (ne_of_none e h)]; exact s b u e
end L2
namespace My
open PySem L2
theorem bLen : bootBuiltins "len" = some (.builtin "len") := by decide +kernel
theorem bIsi : bootBuiltins "isinstance" = some (.builtin "isinstance") := by decide +kernel
theorem bInt : bootBuiltins "int" = some (.type "int") := by decide +kernel
theorem bBool : bootBuiltins "bool" = some (.type "bool") := by decide +kernel
theorem bTuple : bootBuiltins "tuple" = some (.type "tuple") := by decide +kernel
theorem bList : bootBuiltins "list" = some (.type "list") := by decide +kernel
theorem bMax : bootBuiltins "max" = some (.builtin "max") := by decide +kernel
theorem bMin : bootBuiltins "min" = some (.builtin "min") := by decide +kernel
theorem bDict : bootBuiltins "dict" = some (.type "dict") := by decide +kernel
structure Bi (mg : Str → Option Value) : Prop where
  len : mg "len" = none
  isi : mg "isinstance" = none
  int : mg "int" = none
  bool : mg "bool" = none
  tuple : mg "tuple" = none
  list : mg "list" = none
  range : mg "range" = none
  max : mg "max" = none
  min : mg "min" = none
  zip : mg "zip" = none
  dict : mg "dict" = none
theorem kit (K : PySem.W.Frag) (T U : String) (b : Bool) (h : PySem.W.kitOne [] (.type T) (.type U) = some b) : PySem.W.kitOne K (.type T) (.type U) = some b := h
structure NetZ (H : Hp) (p : Addr) (n : Nat) (q : Addr) (ts : List V) (es : List (Nat × Nat)) : Prop where
  e1 : H p = some (.tup [.int (n : Int), .ref q])
  e2 : H q = some (.tup ts)
  len : ts.length = es.length
  tie : ∀ (i : Nat) t, ts[i]? = some t → ∃ a, t = V.ref a ∧ H a = some (.tup [.int ((es.getD i (0, 0)).1 : Int), .int ((es.getD i (0, 0)).2 : Int)])
  l200 : es.length ≤ 200
  n60 : n ≤ 60
  ok : ∀ e ∈ es, e.1 < n ∧ e.2 < n ∧ e.1 ≠ e.2
theorem NetZ.same {H H' : Hp} {p q : Addr} {n : Nat} {ts : List V} {es : List (Nat × Nat)} (h : NetZ H p n q ts es) (k : Same H H') : NetZ H' p n q ts es :=
  ⟨k _ _ h.e1, k _ _ h.e2, h.len, fun i t e => let ⟨a, x, y⟩ := h.tie i t e; ⟨a, x, k _ _ y⟩, h.l200, h.n60, h.ok⟩
theorem getD_mem {es : List (Nat × Nat)} {k : Nat} (h : k < es.length) : es.getD k (0, 0) ∈ es := by rw [List.getD_eq_getElem?_getD, List.getElem?_eq_getElem h]; exact List.getElem_mem h
theorem NetZ.at' {H : Hp} {p q : Addr} {n : Nat} {ts : List V} {es : List (Nat × Nat)} (h : NetZ H p n q ts es) {k : Nat} (hk : k < es.length) : ∃ a, ts[k]? = some (.ref a) ∧ H a = some (.tup [.int ((es.getD k (0, 0)).1 : Int), .int ((es.getD k (0, 0)).2 : Int)]) := by
  have hk' : k < ts.length := by rw [h.len]; exact hk
  obtain ⟨a, x, y⟩ := h.tie k _ (List.getElem?_eq_getElem hk')
  exact ⟨a, by rw [List.getElem?_eq_getElem hk', x], y⟩
def nl (l : List Nat) : List V := l.map fun x : Nat => V.int (x : Int)
theorem nl_get {l : List Nat} {i x : Nat} (h : l[i]? = some x) : (nl l)[i]? = some (.int (x : Int)) := by unfold nl; rw [List.getElem?_map, h]; rfl
theorem nl_len (l : List Nat) : (nl l).length = l.length := by unfold nl; rw [List.length_map]
def tN : Option Nat → V
  | none => .non
  | some t => .int (t : Int)
def tv (tl : List (Option Nat)) : List V := tl.map tN
theorem tv_len (tl : List (Option Nat)) : (tv tl).length = tl.length := by unfold tv; rw [List.length_map]
theorem tv_get {tl : List (Option Nat)} {i : Nat} {o : Option Nat} (h : tl[i]? = some o) : (tv tl)[i]? = some (tN o) := by unfold tv; rw [List.getElem?_map, h]; rfl
theorem tv_inv {tl : List (Option Nat)} {i : Nat} {x : V} (h : (tv tl)[i]? = some x) : ∃ o, tl[i]? = some o ∧ x = tN o := by
  unfold tv at h
  rw [List.getElem?_map] at h
  cases e : tl[i]? with
  | none => rw [e] at h; cases h
  | some o => rw [e] at h; cases h; exact ⟨o, rfl, rfl⟩
theorem tN_non {o : Option Nat} : tN o = .non ↔ o = none := by cases o <;> simp [tN]
theorem tN_nV (o : Option Nat) : tN o = nV (o.map fun t : Nat => (t : Int)) := by cases o <;> rfl
end My
set_option Elab.async false
set_option linter.all false
set_option maxRecDepth 100000
set_option maxHeartbeats 4000000
namespace My
open PySem L2
def At (e : Nat × Nat) (p : Nat) : Prop := p = e.1 ∨ p = e.2
def Used (es : List (Nat × Nat)) (tl : List (Option Nat)) (k p t : Nat) : Prop := ∃ j, j < k ∧ tl[j]? = some (some t) ∧ At (es.getD j (0, 0)) p
def CleanTo (es : List (Nat × Nat)) (tl : List (Option Nat)) (k : Nat) : Prop := ∀ i j t, j < i → i < k → tl[i]? = some (some t) → tl[j]? = some (some t) → ∀ p, At (es.getD i (0, 0)) p → ¬ At (es.getD j (0, 0)) p
theorem CleanTo.zero (es : List (Nat × Nat)) (tl : List (Option Nat)) : CleanTo es tl 0 := fun i j t _ h => absurd h (Nat.not_lt_zero _)
theorem Used.zero {es : List (Nat × Nat)} {tl : List (Option Nat)} {p t : Nat} : ¬ Used es tl 0 p t := fun ⟨j, h, _⟩ => absurd h (Nat.not_lt_zero _)
theorem Used.succ {es : List (Nat × Nat)} {tl : List (Option Nat)} {k p t : Nat} : Used es tl (k + 1) p t ↔ Used es tl k p t ∨ (tl[k]? = some (some t) ∧ At (es.getD k (0, 0)) p) := by
  constructor
  · rintro ⟨j, h, a, b⟩
    by_cases e : j = k
    · subst e; exact .inr ⟨a, b⟩
    · exact .inl ⟨j, by omega, a, b⟩
  · rintro (⟨j, h, a, b⟩ | ⟨a, b⟩)
    · exact ⟨j, by omega, a, b⟩
    · exact ⟨k, by omega, a, b⟩
theorem CleanTo.succ {es : List (Nat × Nat)} {tl : List (Option Nat)} {k : Nat} (h : CleanTo es tl k) (hk : ∀ t, tl[k]? = some (some t) → ∀ p, At (es.getD k (0, 0)) p → ¬ Used es tl k p t) : CleanTo es tl (k + 1) := by
  intro i j t hj hi h1 h2 p hp hq
  by_cases e : i = k
  · subst e
    exact hk t h1 p hp ⟨j, hj, h2, hq⟩
  · exact h i j t hj (by omega) h1 h2 p hp hq
theorem Used.app {es : List (Nat × Nat)} {tl : List (Option Nat)} {o : Option Nat} {k p t : Nat} (h : k ≤ tl.length) : Used es (tl ++ [o]) k p t ↔ Used es tl k p t := by
  constructor
  · rintro ⟨j, hj, a, b⟩
    exact ⟨j, hj, by rw [List.getElem?_append_left (by omega)] at a; exact a, b⟩
  · rintro ⟨j, hj, a, b⟩
    exact ⟨j, hj, by rw [List.getElem?_append_left (by omega)]; exact a, b⟩
theorem CleanTo.app {es : List (Nat × Nat)} {tl : List (Option Nat)} {o : Option Nat} {k : Nat} (h : k ≤ tl.length) (c : CleanTo es tl k) : CleanTo es (tl ++ [o]) k := by
  intro i j t hj hi h1 h2
  rw [List.getElem?_append_left (by omega)] at h1 h2
  exact c i j t hj hi h1 h2
abbrev ky (a b : Nat) : List Key := [Sum.inl (a : Int), Sum.inl (b : Int)]
theorem ky_inj {a b c d : Nat} (h : ky a b = ky c d) : a = c ∧ b = d := by
  have h1 := List.cons.inj h
  have h2 := List.cons.inj h1.2
  have e1 := Sum.inl.inj h1.1
  have e2 := Sum.inl.inj h2.1
  omega
def Keys (kvs : List (List Key × V)) (R : Nat → Nat → Prop) : Prop := ∀ p t : Nat, (valV kvs (ky p t)).isSome = true ↔ R p t
theorem Keys.put {kvs : List (List Key × V)} {R : Nat → Nat → Prop} (h : Keys kvs R) (a b : Nat) (v : V) : Keys (putK kvs (ky a b) v) (fun p t => R p t ∨ (p = a ∧ t = b)) := by
  intro p t
  rw [valV_put]
  by_cases e : ky p t = ky a b
  · rw [if_pos e]
    exact ⟨fun _ => .inr (ky_inj e), fun _ => rfl⟩
  · rw [if_neg e, h p t]
    exact ⟨.inl, fun z => z.elim id fun ⟨z1, z2⟩ => absurd (by rw [z1, z2]) e⟩
theorem Keys.iff {kvs : List (List Key × V)} {R S : Nat → Nat → Prop} (h : Keys kvs R) (e : ∀ p t, R p t ↔ S p t) : Keys kvs S := fun p t => (h p t).trans (e p t)
end My
set_option Elab.async false
set_option linter.all false
set_option maxRecDepth 100000
set_option maxHeartbeats 4000000
namespace My
open PySem L2
def put {α : Type} (f : Nat → α) (k : Nat) (v : α) : Nat → α := fun i => if i = k then v else f i
theorem put_same {α : Type} (f : Nat → α) (k : Nat) (v : α) : put f k v k = v := by unfold put; rw [if_pos rfl]
theorem put_ne {α : Type} (f : Nat → α) {k i : Nat} (v : α) (h : i ≠ k) : put f k v i = f i := by unfold put; rw [if_neg h]
def lv (L : Nat → Nat) (n : Nat) : List V := (List.range n).map fun x : Nat => V.int (L x : Int)
theorem lv_len (L : Nat → Nat) (n : Nat) : (lv L n).length = n := by unfold lv; rw [List.length_map, List.length_range]
theorem lv_get (L : Nat → Nat) {n k : Nat} (h : k < n) : (lv L n)[k]? = some (.int (L k : Int)) := by
  unfold lv
  rw [List.getElem?_map, List.getElem?_range h]
  rfl
theorem lv_set (L : Nat → Nat) (n k v : Nat) : (lv L n).set k (.int (v : Int)) = lv (put L k v) n := by
  apply List.ext_getElem?
  intro i
  by_cases hi : i < n
  · rw [lv_get _ hi, List.getElem?_set]
    by_cases e : k = i
    · subst e
      rw [if_pos rfl, if_pos (by rw [lv_len]; exact hi), put_same]
    · rw [if_neg e, lv_get _ hi, put_ne _ _ (fun z => e z.symm)]
  · rw [List.getElem?_eq_none (by rw [List.length_set, lv_len]; omega), List.getElem?_eq_none (by rw [lv_len]; omega)]
def cnt (tl : List (Option Nat)) (t : Nat) : Nat := tl.count (some t)
end My
set_option Elab.async false
set_option linter.all false
set_option maxRecDepth 100000
set_option maxHeartbeats 4000000
namespace My
def InP (tl : List (Option Nat)) (u v k : Nat) : Prop := tl[k]? = some (some u) ∨ tl[k]? = some (some v)
inductive RP (es : List (Nat × Nat)) (tl : List (Option Nat)) (u v p : Nat) : Nat → Prop
  | start : RP es tl u v p p
  | step {x y k : Nat} : RP es tl u v p x → k < es.length → InP tl u v k → At (es.getD k (0, 0)) x → At (es.getD k (0, 0)) y → RP es tl u v p y
def RT (es : List (Nat × Nat)) (tl : List (Option Nat)) (u v p k : Nat) : Prop := k < es.length ∧ InP tl u v k ∧ ∃ x, RP es tl u v p x ∧ At (es.getD k (0, 0)) x
theorem InP.comm {tl : List (Option Nat)} {u v k : Nat} : InP tl u v k ↔ InP tl v u k := ⟨Or.symm, Or.symm⟩
theorem RP.comm {es : List (Nat × Nat)} {tl : List (Option Nat)} {u v p x : Nat} (h : RP es tl u v p x) : RP es tl v u p x := by
  induction h with
  | start => exact .start
  | step _ h1 h2 h3 h4 ih => exact .step ih h1 (InP.comm.mp h2) h3 h4
theorem RT.comm {es : List (Nat × Nat)} {tl : List (Option Nat)} {u v p k : Nat} : RT es tl u v p k ↔ RT es tl v u p k :=
  ⟨fun ⟨a, b, x, c, d⟩ => ⟨a, InP.comm.mp b, x, c.comm, d⟩, fun ⟨a, b, x, c, d⟩ => ⟨a, InP.comm.mp b, x, c.comm, d⟩⟩
theorem RT.end {es : List (Nat × Nat)} {tl : List (Option Nat)} {u v p k y : Nat} (h : RT es tl u v p k) (hy : At (es.getD k (0, 0)) y) : RP es tl u v p y := let ⟨a, b, x, c, d⟩ := h; .step c a b d hy
structure Walk (es : List (Nat × Nat)) (tl : List (Option Nat)) (u v p : Nat) (F : Nat → Prop) (V W : Nat → Prop) : Prop where
  rt : ∀ k, F k → RT es tl u v p k
  rw : ∀ x, W x → RP es tl u v p x
  cl : ∀ x, V x → ∀ k, k < es.length → InP tl u v k → At (es.getD k (0, 0)) x → F k
  en : ∀ k, F k → ∀ x, At (es.getD k (0, 0)) x → V x ∨ W x
  st : V p ∨ W p
theorem Walk.done {es : List (Nat × Nat)} {tl : List (Option Nat)} {u v p : Nat} {F V W : Nat → Prop} (h : Walk es tl u v p F V W) (hW : ∀ x, ¬ W x) : ∀ k, F k ↔ RT es tl u v p k := by
  have hV : ∀ x, RP es tl u v p x → V x := fun x hx => by
    induction hx with
    | start => exact h.st.resolve_right (hW _)
    | step _ h1 h2 h3 h4 ih => exact (h.en _ (h.cl _ ih _ h1 h2 h3) _ h4).resolve_right (hW _)
  exact fun k => ⟨h.rt k, fun ⟨a, b, x, c, d⟩ => h.cl x (hV x c) k a b d⟩
theorem rising_ext : ∀ {a b : List Nat}, a.Pairwise (· < ·) → b.Pairwise (· < ·) → (∀ x, x ∈ a ↔ x ∈ b) → a = b
  | [], [], _, _, _ => rfl
  | [], y :: b, _, _, h => by have := (h y).mpr (.head _); cases this
  | x :: a, [], _, _, h => by have := (h x).mp (.head _); cases this
  | x :: a, y :: b, ha, hb, h => by
    have ha' := List.pairwise_cons.mp ha
    have hb' := List.pairwise_cons.mp hb
    have e : x = y := by
      have h1 := (h x).mp (.head _)
      have h2 := (h y).mpr (.head _)
      rcases List.mem_cons.mp h1 with z | z
      · exact z
      · rcases List.mem_cons.mp h2 with z2 | z2
        · exact z2.symm
        · have := hb'.1 x z
          have := ha'.1 y z2
          omega
    subst e
    congr 1
    refine rising_ext ha'.2 hb'.2 fun z => ?_
    constructor
    · intro hz
      rcases List.mem_cons.mp ((h z).mp (.tail _ hz)) with q | q
      · subst q; exact absurd (ha'.1 z hz) (Nat.lt_irrefl _)
      · exact q
    · intro hz
      rcases List.mem_cons.mp ((h z).mpr (.tail _ hz)) with q | q
      · subst q; exact absurd (hb'.1 z hz) (Nat.lt_irrefl _)
      · exact q
def deg (es : List (Nat × Nat)) : List Nat → Nat → Nat
  | [], _ => 0
  | k :: l, x => (if (es.getD k (0, 0)).1 = x then 1 else 0) + (if (es.getD k (0, 0)).2 = x then 1 else 0) + deg es l x
def sumOver (f : Nat → Nat) : List Nat → Nat
  | [] => 0
  | x :: l => f x + sumOver f l
theorem sumOver_add (f g : Nat → Nat) : ∀ l, sumOver (fun x => f x + g x) l = sumOver f l + sumOver g l
  | [] => rfl
  | x :: l => by show f x + g x + sumOver _ l = f x + sumOver f l + (g x + sumOver g l); rw [sumOver_add f g l]; omega
theorem sumOver_one {y : Nat} : ∀ {l : List Nat}, l.Nodup → y ∈ l → sumOver (fun x => if y = x then 1 else 0) l = 1
  | x :: l, nd, h => by
    have nd' := List.nodup_cons.mp nd
    show (if y = x then 1 else 0) + sumOver _ l = 1
    rcases List.mem_cons.mp h with e | e
    · subst e
      rw [if_pos rfl]
      have : ∀ l : List Nat, y ∉ l → sumOver (fun x => if y = x then 1 else 0) l = 0 := by
        intro l
        induction l with
        | nil => intro _; rfl
        | cons z l ih =>
          intro hn
          show (if y = z then 1 else 0) + sumOver _ l = 0
          rw [if_neg (fun q => hn (by rw [q]; exact .head _)), ih fun q => hn (.tail _ q)]
      rw [this l nd'.1]
    · rw [if_neg (fun q => nd'.1 (by rw [← q]; exact e)), sumOver_one nd'.2 e]
theorem sum_deg {es : List (Nat × Nat)} {pts : List Nat} (nd : pts.Nodup) : ∀ {l : List Nat}, (∀ k ∈ l, (es.getD k (0, 0)).1 ∈ pts ∧ (es.getD k (0, 0)).2 ∈ pts) → sumOver (deg es l) pts = 2 * l.length
  | [], _ => by
    have : ∀ l : List Nat, sumOver (deg es []) l = 0 := by
      intro l
      induction l with
      | nil => rfl
      | cons x l ih => show 0 + sumOver _ l = 0; rw [ih]
    rw [this]; rfl
  | k :: l, h => by
    obtain ⟨h1, h2⟩ := h k (.head _)
    have e : sumOver (deg es (k :: l)) pts = sumOver (fun x => (if (es.getD k (0, 0)).1 = x then 1 else 0) + (if (es.getD k (0, 0)).2 = x then 1 else 0)) pts + sumOver (deg es l) pts := sumOver_add (fun x => (if (es.getD k (0, 0)).1 = x then 1 else 0) + (if (es.getD k (0, 0)).2 = x then 1 else 0)) (deg es l) pts
    rw [e, sumOver_add, sumOver_one nd h1, sumOver_one nd h2, sum_deg nd fun j hj => h j (.tail _ hj), List.length_cons]
    omega
theorem ones_of {f : Nat → Nat} : ∀ {pts : List Nat}, (∀ x ∈ pts, f x = 1 ∨ f x = 2) → sumOver f pts + (pts.filter fun x => decide (f x = 1)).length = 2 * pts.length
  | [], _ => rfl
  | x :: pts, h => by
    have ih := ones_of (pts := pts) fun y hy => h y (.tail _ hy)
    rw [List.filter_cons, List.length_cons]
    show f x + sumOver f pts + _ = _
    rcases h x (.head _) with e | e
    · rw [if_pos (decide_eq_true e), List.length_cons]
      omega
    · rw [if_neg (fun z => by have := of_decide_eq_true z; omega)]
      omega
theorem ends_two {es : List (Nat × Nat)} {pts l : List Nat} (nd : pts.Nodup) (h : ∀ k ∈ l, (es.getD k (0, 0)).1 ∈ pts ∧ (es.getD k (0, 0)).2 ∈ pts) (hd : ∀ x ∈ pts, deg es l x = 1 ∨ deg es l x = 2) (hc : pts.length ≤ l.length + 1) :
    (pts.filter fun x => decide (deg es l x = 1)).length = 0 ∨ (pts.filter fun x => decide (deg es l x = 1)).length = 2 := by
  have h1 := sum_deg nd h
  have h2 := ones_of hd
  omega
end My
set_option linter.all false
namespace My
def draw (ns : List Int) (k : Int) : Int := ((ns.getD k.toNat 0).natAbs : Int)
theorem mod_lo {n p : Int} (h : 0 < p) : 0 ≤ n % p := Int.emod_nonneg _ (by omega)
theorem mod_hi {n p : Int} (h : 0 < p) : n % p < p := Int.emod_lt_of_pos _ h
end My
set_option Elab.async false
set_option linter.all false
set_option maxRecDepth 100000
set_option maxHeartbeats 4000000
namespace L2
open PySem PySem.Spec PyProof.Rows
def tLCZ (K : PySem.W.Frag) (bs : List (Option Nat)) (ta : TA) (g : TG) (tt : TT) (te : TE) : TE := fun σ H Q => ta σ H fun vs H1 => ∃ a c xs ys, vs = [.ref a, .ref c] ∧ SqT K H1 a xs ∧ SqT K H1 c ys ∧ xs.length = ys.length ∧ xs.length ≤ 100000 ∧ ∃ Pv : Nat → List V → St → Hp → Prop, Pv 0 [] (bst bs σ) H1 ∧
  (∀ i zs σ H, i ≤ xs.length → Pv i zs σ H → SqT K H a xs ∧ SqT K H c ys ∧ zs.length ≤ i) ∧
  (∀ i x y zs σ H, xs[i]? = some x → ys[i]? = some y → Pv i zs σ H → ∀ T H2, Same H H2 → H2 T = some (.tup [x, y]) → g (.ref T) σ H2 fun σ3 H3 => tt σ3 H3 fun b H4 => if b = true then te σ3 H4 fun v H5 => Pv (i + 1) (zs ++ [v]) σ3 H5 else Pv (i + 1) zs σ3 H4) ∧
  ∀ zs σ H, Pv xs.length zs σ H → ∀ p H', Same H H' → H' p = some (.lst zs) → Q (.ref p) H'
theorem pe_lcZ {X : Cx} {scope : Scope} {cl : List (Str × Addr)} {N : List Str} {bs : List (Option Nat)} {elts : List Expr} {x1 : Nat} {tpos : Pos} {a b elt : Expr} {ifs : List Expr} {p pos' pos : Pos} {ta : TA} {g : TG} {tt : TT} {te : TE} (B : Blk X scope cl N bs) (hc : X.calm = true)
    (hgl : Gl X "zip") (hmr : X.mg "zip" = none) (ha : PA X [a, b] ta) (hm : MonoA ta) (hpl : plainE a = true) (hpl2 : plainE b = true) (hg : ∀ C fp s H, PG (cxBlk X scope cl C N fp s H) (.Tuple elts x1 tpos) g) (ht : ∀ C fp s H, PTs (cxBlk X scope cl C N fp s H) ifs tt) (he : ∀ C fp s H, PE (cxBlk X scope cl C N fp s H) elt te)
    (hs : ∀ x, foldedSetIterable (.Call (.Name "zip" p) [a, b] [] pos') X.env x = pure x := by intro _; rfl) : PE X (.ListComp elt [⟨.Tuple elts x1 tpos, .Call (.Name "zip" p) [a, b] [] pos', ifs, 0⟩] scope pos) (tLCZ X.K bs ta g tt te) := by
  intro pins s σ H Q I h
  refine @pe_lc X scope cl N bs _ _ elt ifs pos (iZipT X.K ta) g tt te B hc (@pi_zipT X elts x1 tpos a b ta p pos' hgl hmr ha hpl hpl2) hg ht he hs pins s σ H Q I ?_
  refine hm σ H _ _ (fun vs H1 h => ?_) h
  obtain ⟨a, c, xs, ys, e, hS, hS2, hle, hz, Pv, p0, pl, ps, pd⟩ := h
  refine ⟨a, c, e, ⟨xs, hS⟩, ⟨ys, hS2⟩, fun i m zs σ H => m = xs.length - i ∧ i ≤ xs.length ∧ Pv i zs σ H, ⟨xs.length, by simp, Nat.zero_le _, p0⟩, ?_⟩
  rintro i m zs σ H ⟨rfl, hi, pv'⟩
  obtain ⟨q, q2, ql⟩ := pl i zs σ H hi pv'
  have hz' := leMil hz
  by_cases hlt : i < xs.length
  · have hlt2 : i < ys.length := by omega
    refine .inr ⟨⟨xs, ys, xs[i], ys[i], q, q2, by simp [hlt], by simp [hlt2]⟩, by omega, Pv (i + 1), fun zs σ' H' p' => ⟨xs.length - (i + 1), by omega, rfl, hlt, p'⟩, fun x H' y => ?_⟩
    obtain ⟨T, u, v, rfl, hT, rfl, hu, hv⟩ := y
    exact ps i u v zs σ H (hu xs q) (hv ys q2) pv' T _ (same_add hT) upd_same
  · have e : i = xs.length := by omega
    subst e
    exact .inl ⟨⟨xs, ys, q, q2, .inl (Nat.le_refl _)⟩, by omega, fun p hpn => pd zs σ H pv' p _ (same_add hpn) upd_same⟩
theorem pc_dnotinNK {X : Cx} {P : Program} {w : World} {i o : Expr} {ty td : TE} (hP : X.prog = P) (hw : X.w = w) (hi : PE X i ty) (ho : PE X o td) : PC X .NotIn i o (tDNotInN P w ty td) := by
  subst hP
  cases hw
  exact pc_dnotinN hi ho
end L2
set_option Elab.async false
set_option linter.all false
set_option maxRecDepth 100000
set_option maxHeartbeats 4000000
namespace L2
open PySem PySem.Spec PyProof.Rows
structure Mk0 (K : PySem.W.Frag) (C : Addr) : Prop where
  makes : PySem.W.makesIn K C = true
  init : PySem.W.findIn K (.ref C) "__init__" = some (some (.builtin "object.__init__"))
  kp : PySem.W.keepIn K (.ref C) = true
structure OwnC (K : PySem.W.Frag) (C : Addr) : Prop where
  cl : Cls K C
  ha : PySem.W.findIn K (.ref C) "__class__" = some (some (.builtin "object.__class__"))
  hn : PySem.W.specialIn K (.builtin "object.__class__") "__get__" = some (some (.builtin "getset_descriptor.__get__"))
  htk : PySem.W.takesIn K (.builtin "object.__class__") = some true
  hm : PySem.W.mroIn K C (.type "object") = some true
theorem OwnC.ty {K : PySem.W.Frag} {H : Hp} {a C dx : Addr} {fs : List (Str × V)} (o : OwnC K C) (e : H a = some (.ins C dx fs)) : TyOf K H (.ref a) (.ref C) := .ins e o.cl o.ha o.hn o.htk o.hm
section
variable {X : Cx}
def tNew (C : Addr) : TE := fun _ H Q => ∀ x dx, H x = none → H dx = none → dx ≠ x → Q (.ref x) (upd (upd H dx (.own x)) x (.ins C dx []))
theorem pe_new {x : Str} {C : Addr} {p pos : Pos} (M : Mk0 X.K C) (hg : Gl X x) (hm : X.mg x = some (.ref C)) (hdb : (x == ("__debug__" : Str)) = false := by decide) : PE X (.Call (.Name x p) [] [] pos) (tNew C) := by
  intro pins s σ H Q I h
  refine wpAny_Call_Name_kw (ld_glob I hg hm ?_ hdb)
  refine PySem.W.callWith_K0 I.kIn M.kp ?_
  have hq := h (s.heap.objs.size + 1) s.heap.objs.size (I.hok.fresh (Nat.le_succ _)) (I.hok.fresh (Nat.le_refl _)) (Nat.ne_of_lt (Nat.lt_succ_self _))
  have I2 := Inv.made (C := C) I
  have Y := PySem.W.makes_of (M := model X.prog X.w) I.kIn M.makes
  refine wpAny_call (make_map0 I.kIn M.makes M.init (fun self => PySem.W.Looks.of_pure (PySem.W.oi_bind self)) ?_)
  have g1 : ((s.heap.push PySem.W.emptyDict).push (PySem.W.instObj C s.heap.objs.size)).get? (s.heap.objs.size + 1) = some (PySem.W.instObj C s.heap.objs.size) := by
    have := Heap.get?_push_size (s.heap.push PySem.W.emptyDict) (o := PySem.W.instObj C s.heap.objs.size) rfl
    rwa [Heap.size_push] at this
  have t1 : PySem.W.Looks (model X.prog X.w) ((s.heap.push PySem.W.emptyDict).push (PySem.W.instObj C s.heap.objs.size)) (typeOf (.ref (s.heap.objs.size + 1))) (.ref C) := (PySem.W.Looks.ld g1).andThen .now
  have t2 : PySem.W.Looks (model X.prog X.w) ((s.heap.push PySem.W.emptyDict).push (PySem.W.instObj C s.heap.objs.size)) (isInstance (.ref (s.heap.objs.size + 1)) (.type "object")) true := t1.andThen (Y.top.keeps fun b o e => Heap.get?_push_of_some _ (Heap.get?_push_of_some _ e))
  refine codeAny_call_builtin PySem.W.oi_plain PySem.W.entry_oi (@PySem.W.check_slot (model X.prog X.w) _ _ _ "object.__init__" "object" "__init__" (.ref (s.heap.objs.size + 1)) [] [] _ PySem.W.oi_kind PySem.W.oi_split t2 (PySem.W.oi_args (.ref (s.heap.objs.size + 1))) ?_)
  rw [PySem.W.oi_run]
  exact wpAny_pure (And.intro rfl ⟨.ref (s.heap.objs.size + 1), _, I2, rfl, hq⟩)
structure MethOk (X : Cx) (m : Str) (C : Addr) (sp : Sp) : Prop where
  ex : ∃ f fd ps k, Cls X.K C ∧ Meth X.K C m f ∧ FnOk X.prog X.w X.K X.mg X.base CX0 k f fd ps sp ∧ Room k X.A ∧ Binds X.K fd ps []
end
end L2
set_option Elab.async false
set_option linter.all false
set_option maxRecDepth 100000
set_option maxHeartbeats 4000000
namespace PySem.W
open PySem PySem.Spec PySem.Calls PyProof.Rows PyProof.V
section
variable {prog : Program} {w : World} {A : Around} {E : Value → Shared → Prop} {s : Shared} {T : String} {r d : Addr} {n : Nat} {P : Nat → Value → Prop} {OK : Heap → Prop}
theorem dcollect {R : List Value → Shared → Prop} (K : KdlSrc prog w T r d n P OK) (hh : A.handled = none) (hok : OK s.heap) (hn : n ≤ sizeLine)
    (h : ∀ (h' : Heap) (tk : Nat) (acc : Array Value), (∀ b o, s.heap.get? b = some o → h'.get? b = some o) → s.heap.objs.size < h'.objs.size → ItemsOf P acc n → R acc.toList { s with heap := h', toks := tk }) :
    wpAny (model prog w) A (collect (.ref r)) R E s := by
  have hlt := K.there _ hok
  unfold collect
  refine wpAny_bind (wpAny_runValue (codeAny_builtin entry_proto_collect' ?_))
  rw [Around.under_plainId PySem.F.plain_proto_collect _]
  show wpAny _ A.in1 (newList [] >>= fun l => again (.builtin "list.__iadd__" ⟨[l, .ref r], []⟩)) _ _ s
  refine wpAny_bind (wpAny_newObj_type ?_)
  refine wpAny_pure ⟨plainId_quiet PySem.F.plain_list_iadd _, codeAny_builtin entry_list_iadd' ?_⟩
  rw [Around.under_plainId PySem.F.plain_list_iadd _]
  have hS₁ : (s.heap.push { cls := .type "list", data := .seq ([] : List Value).toArray }).get? s.heap.objs.size = some { cls := .type "list", data := .seq #[] } := Heap.get?_push_size _ rfl
  show wpAny _ A.in1 (Builtin.List.listExtendWith (.ref s.heap.objs.size) (.ref r) (.ref s.heap.objs.size)) _ _ _
  have key := kdl_extend (A := A) (s := { s with heap := s.heap.push { cls := .type "list", data := .seq ([] : List Value).toArray } })
    (R := fun (q : Result) (s' : Shared) => ∃ (h' : Heap) (tk : Nat) (acc' : Array Value) (c' : Nat), q = .ok (.ret (.ref s.heap.objs.size)) ∧ s' = { s with heap := h', toks := tk } ∧
      (∀ b o, s.heap.get? b = some o → h'.get? b = some o) ∧ h'.get? s.heap.objs.size = some { cls := .type "list", dict := none, data := .seq acc' c', slots := #[] } ∧ ItemsOf P acc' n)
    K hh (K.keep _ _ hok fun b _ o e => Heap.get?_push_of_some _ e) s.heap.objs.size (Nat.ne_of_gt hlt.1) (Nat.ne_of_gt hlt.2) (.ref s.heap.objs.size) 0 hS₁
    (fun h' tk acc' c' hk hS' hacc => ⟨h', tk, acc', c', rfl, rfl, fun b o e => hk b o (Nat.ne_of_lt (Heap.lt_size e)) (Heap.get?_push_of_some _ e), hS', hacc⟩) hn
  refine wpAny_mono key (fun fin s' x => ?_) fun e s' x => ?_
  · cases fin with
    | done f =>
      obtain ⟨h', tk, acc', c', e, rfl, hk, hS', hacc⟩ := x
      cases e
      show wpAny _ A (load s.heap.objs.size >>= _) _ _ _
      refine wpAny_bind (wpAny_load hS' ?_)
      exact wpAny_pure (h h' tk acc' hk (Heap.lt_size hS') hacc)
    | again c₁ =>
      refine ⟨x.1, codeAny_mono x.2 fun q s₂ y => ?_⟩
      obtain ⟨h', tk, acc', c', rfl, rfl, hk, hS', hacc⟩ := y
      show wpAny _ A (load s.heap.objs.size >>= _) _ _ _
      refine wpAny_bind (wpAny_load hS' ?_)
      exact wpAny_pure (h h' tk acc' hk (Heap.lt_size hS') hacc)
  · obtain ⟨_, _, _, _, e', _⟩ := x
    cases e'
end
end PySem.W
namespace L2
open PySem PySem.Spec PyProof.Rows
section
variable {prog : Program} {w : World} {K : Type} [DecidableEq K] {knd : KeyKind prog w K} {A : Around} {E : Value → Shared → Prop} {s : Shared}
theorem sorted_dict {d : Addr} {kvs : List (K × Value)} {ns : List Int} {Q : Value → Shared → Prop} (hh : A.handled = none) (lo : (d == sysModules) = false) (hD : s.heap.DictOf knd d kvs) (h64 : kvs.length < 64)
    (hk : ∀ (i : Nat) (k : K) (x v : Value), kvs[i]? = some (k, x) → knd.is k v = true → ∃ t, v = .int (ns.getD i 0) t) (hl : ns.length = kvs.length)
    (h : ∀ (h' : Heap) (tk : Nat) (p : Addr) (out : Array Value) (e : Nat) (ns' : List Int), (∀ b o, s.heap.get? b = some o → h'.get? b = some o) → s.heap.objs.size ≤ p → h'.get? p = some (seqObj "list" out e) → IntsAre out.toList ns' → ns'.Perm ns → ns'.Pairwise (· ≤ ·) → Q (.ref p) { s with heap := h', toks := tk }) :
    wpAny (model prog w) A (call (.builtin "sorted") [.ref d]) Q E s := by
  obtain ⟨ep, hat⟩ := hD.dictAt
  refine Calls.call_function_entry kind_sorted plain_sorted entry_sorted (args_sorted1 _) ?_
  unfold Builtin.«sorted»
  refine wpAny_bind (m := checkCount "sorted" 1 1 _) (wpAny_pure ?_)
  refine wpAny_bind (PySem.W.dcollect (A := A.in1) (PySem.W.kdl_dict (knd := knd) (kvs := kvs) (ep := ep) lo) (by simp [hh]) hat (leMil (by omega)) fun h1 tk acc hk1 hsz hacc => ?_)
  have hl1 : acc.toList.length = kvs.length := by rw [Array.length_toList]; exact hacc.1
  refine wpAny_bind (wpAny_newList ?_ (by rw [hl1]; exact leMil (by omega)))
  have hoL : (h1.push (seqObj "list" acc.toList.toArray 0)).get? h1.objs.size = some (seqObj "list" acc.toList.toArray 0) := Heap.get?_push_size _ rfl
  have hI : IntsAre acc.toList ns := by
    have key : ∀ (vs : List Value) (ms : List Int), vs.length = ms.length → (∀ (i : Nat) v, vs[i]? = some v → ∃ t, v = .int (ms.getD i 0) t) → IntsAre vs ms := by
      intro vs
      induction vs with
      | nil => intro ms hl _; cases ms with | nil => exact .nil | cons _ _ => cases hl
      | cons v vs ih =>
        intro ms hl hv
        cases ms with
        | nil => cases hl
        | cons m ms =>
          obtain ⟨t, rfl⟩ := hv 0 v rfl
          exact .cons _ _ (ih ms (by simpa using hl) fun i v' hv' => hv (i + 1) v' (by simpa using hv'))
    refine key _ _ (by omega) fun i v hv => ?_
    obtain ⟨k, x, hx, hkv⟩ := hacc.2 i v (by rw [← Array.getElem?_toList]; exact hv)
    exact hk i k x v hx hkv
  refine wpAny_bind (wpAny_holding (wpAny_call_entry slot_list_sort ⟨_, hoL, rfl⟩ entry_list_sort (list_sort_tree hoL hI (by omega) fun out ns' a1 a2 a3 => ⟨_, rfl, ?_⟩) (args_list_sort _)))
  obtain ⟨e, he⟩ := sortedHeap_at (out := out) hoL
  refine wpAny_pure ⟨_, rfl, h _ tk h1.objs.size out e ns' (fun b o eb => ?_) ?_ he a1 a2 a3⟩
  · have hlt : b < h1.objs.size := Heap.lt_size (hk1 b o eb)
    rw [sortedHeap_old (Nat.ne_of_lt hlt) (by rw [size_push']; exact Nat.lt_succ_of_lt hlt)]
    exact Heap.get?_push_of_some _ (hk1 b o eb)
  · exact Nat.le_of_lt hsz
end
end L2
namespace L2
open PySem PySem.Spec PyProof.Rows
section
variable {X : Cx}
theorem lst_vals {ns : List Int} : ∀ {us : List Value}, IntsAre us ns → Vals (ns.map V.int) us := by
  induction ns with
  | nil => intro us r; cases r; exact .nil
  | cons k ks ih =>
    intro us r
    cases r with
    | cons _ t hr => exact .cons ⟨t, rfl⟩ (ih hr)
def rSortedD : List V → Hp → VK → Prop := fun xs H Q => ∃ d, ∃ kvs : List (Key × V), ∃ ns : List Int, xs = [.ref d] ∧ H d = some (.dK kvs) ∧ kvs.map (·.1) = ns.map Sum.inl ∧ ns.length < 64 ∧ ∀ p (ns' : List Int) H', Same H H' → H' p = some (.lst (ns'.map V.int)) → ns'.Perm ns → ns'.Pairwise (· ≤ ·) → Q (.ref p) H'
theorem call_sortedD {k : Nat} (hr : Room k X.A) : CallR X (.builtin "sorted") rSortedD := by
  intro pins s σ H xs us Q I r h
  obtain ⟨d, kvs, ns, rfl, hd, hk, h64, q⟩ := h
  obtain ⟨u, rfl, rx⟩ := vals1 r
  cases (show u = Value.ref d from rx)
  obtain ⟨z, lo, vs, rel, dd⟩ := dk_of I.hok hd
  have hvl : kvs.length = vs.length := Paired.length rel
  have hkl : kvs.length = ns.length := by have := congrArg List.length hk; simpa using this
  have hkeys : vs.map (·.1) = ns.map (Sum.inl : Int → Key) := by
    rw [← hk]
    have : ∀ {kvs : List (Key × V)} {vs : List (Key × Value)}, KV kvs vs → vs.map (·.1) = kvs.map (·.1) := by
      intro kvs vs r
      induction r with
      | nil => rfl
      | cons h _ ih => rw [List.map_cons, List.map_cons, ih, h.1]
    exact this rel
  refine sorted_dict (knd := mixKind X.prog X.w) (ns := ns) hr.hd lo dd (by omega) (fun i k x v hi hv => ?_) (by omega) fun h' tk p out e ns' kp hp he a1 a2 a3 => ?_
  · have h1 : (vs.map (·.1))[i]? = some k := by rw [List.getElem?_map, hi]; rfl
    rw [hkeys, List.getElem?_map] at h1
    cases hn : ns[i]? with
    | none => rw [hn] at h1; cases h1
    | some m =>
      rw [hn] at h1
      cases h1
      rw [List.getD_eq_getElem?_getD, hn]
      obtain ⟨t, e⟩ := Value.isInt_shape (k := m) (v := v) hv
      exact ⟨t, e⟩
  · have hln := a2.length_eq
    refine ⟨.ref p, _, I.laid (t' := tk) (a := p) (o := .lst (ns'.map V.int)) kp hp ?_, rfl, q _ ns' _ (same_add (I.hok.fresh hp)) upd_same a2 a3⟩
    exact ⟨by rw [List.length_map]; exact leMil (by omega), out.toList, e, lst_vals a1, he⟩
def tDSetD (td ty tx : TE) : TE := fun σ H Q => td σ H fun x H1 => ∃ a, x = .ref a ∧ IsD H1 a ∧ ty σ H1 fun y H2 => tx σ H2 fun z H3 => ∃ kvs k, H3 a = some (.dK kvs) ∧ y = kV k ∧ kvs.length < 100000 ∧ (∀ v, valV kvs k = some v → Q v H3) ∧ (valV kvs k = none → Q z (upd H3 a (.dK (putK kvs k z))))
theorem pe_dsetd {o e f : Expr} {td ty tx : TE} {apos cpos : Pos} (ho : PE X o td) (he : PE X e ty) (hf : PE X f tx) (m : M2 X o "setdefault" apos e f cpos) : PE X (.Call (.Attribute o "setdefault" apos) [e, f] [] cpos) (tDSetD td ty tx) := by
  intro pins s σ H Q I h
  refine wpAny_Call_method m.base m.few m.line PySem.F.plainAttrs_dict PySem.F.slot_dict_setdefault PySem.F.type_dict_setdefault (thn (ho pins s σ H _ I h) fun u s1 ⟨x, H1, I1, rx, a, ex, d, q1⟩ => ?_)
  subst ex
  obtain rfl : u = Value.ref a := rx
  obtain ⟨t1, t2, _⟩ := isD_at I1 d
  refine ⟨t1, t2, ?_⟩
  rw [m.trees]
  refine Calls.callWith_builtin rfl (Calls.evalArgs_plain (Calls.spliced_cons (thn (he pins s1 σ H1 _ I1 q1) fun iv s2 ⟨y, H2, I2, ry, q2⟩ =>
    Calls.spliced_cons (thn (hf pins s2 σ H2 _ I2 q2) fun fv s3 ⟨z, H3, I3, rz, kvs, k, hd, ey, hl, q3, q4⟩ => Calls.spliced_nil ?_))))
  subst ey
  obtain ⟨zz, lo, vs, rel, dd⟩ := dk_of I3.hok hd
  have hz : vs.length ≤ sizeLine := by rw [← rel.length]; exact zz
  refine call_meetsIn PySem.F.slot_dict_setdefault dd.typeIs PySem.F.entry_dict_setdefault (PySem.F.args_dict_setdefault_3 _ _ _) (kt_meets_setdefault (mixKind X.prog X.w) a (kV_is ry) lo fv) ⟨vs, dd, hz, fun v hv => ?_, fun hn h' dd' hs => ?_⟩
  · have rv := rel.val k
    rw [hv] at rv
    cases hk : valV kvs k with
    | none => rw [hk] at rv; exact rv.elim
    | some x => rw [hk] at rv; exact ⟨x, H3, I3.tok _, rv, q3 x hk⟩
  · have rv := rel.val k
    rw [hn] at rv
    have hk : valV kvs k = none := by
      cases hk : valV kvs k with
      | none => rfl
      | some x => rw [hk] at rv; exact rv.elim
    have he : ∃ q, h'.get? a = some q := let ⟨q, _, _, hq, _⟩ := dd'; ⟨q, hq⟩
    have hl' : (putK kvs k z).length ≤ sizeLine := leMil (by have := length_putK kvs k z; omega)
    exact ⟨z, _, d_write I3 (by rw [hd]; exact True.intro) hs he (dk_new hl' lo (rel.put k rz) dd'), rz, q4 hk⟩
end
end L2
set_option Elab.async false
set_option linter.all false
set_option maxRecDepth 100000
set_option maxHeartbeats 4000000
namespace SetT
open PySem PySem.SetTable PySem.Spec PyProof.Rows
def ival : Value → Int
  | .int i _ => i
  | _ => 0
def byT (w : World) : Bool := w.params.followText "set-order"
def SI (prog : Program) (w : World) (h : Heap) (a : Addr) (ks : List Int) : Prop :=
  ∃ o es ep t, h.get? a = some o ∧ o.ExactSet ∧ o.data = .set es ep t ∧ SetOk t es ∧ Mk t.mask ∧ es.size * 5 < t.mask * 3 ∧ t.plain = true ∧ t.led = !byT w ∧ ElemsOf (intKind prog w) es.toList ∧ (es.toList.map fun e => ival e.2).Perm ks
variable {prog : Program} {w : World} {A : Around} {E : Value → Shared → Prop} {s : Shared}
theorem SI.at' {h h' : Heap} {a : Addr} {ks : List Int} (x : SI prog w h a ks) (k : ∀ o, h.get? a = some o → h'.get? a = some o) : SI prog w h' a ks := let ⟨o, es, ep, t, ho, r⟩ := x; ⟨o, es, ep, t, k o ho, r⟩
end SetT
set_option Elab.async false
set_option linter.all false
set_option maxRecDepth 100000
set_option maxHeartbeats 4000000
namespace My
open PySem L2
def top (i : Nat) : Stmt := PySem.Challenge.pw_tintties_k34_whole_fans_put.main.body.getD i (.Pass ⟨0, 0, 0, 0⟩)
def Dr (ns : List Int) : Prop := ns.length = 330 ∧ ∀ x ∈ ns, 0 ≤ x
section
variable {P : Program} {w : World} {K : PySem.W.Frag} {mg : Str → Option Value} {base : Heap} {Pt c : Addr}
abbrev sMx : Stmt := top 29
def spMx : Sp := fun vs H Q _ => ∃ cc k : Int, vs = [.int cc, .int k] ∧ 0 ≤ k ∧ k ≤ 1000 ∧ ∀ v : Int, 0 ≤ v → Q (.int v) H
theorem scMx : FnScope ["_law_cell", "_law_k", "_law_first", "_law_second"] ["_law_cell", "_law_k"] (defScope sMx) := ⟨rfl, rfl, rfl, by decide +kernel, rfl, by decide +kernel, by decide +kernel⟩
theorem ok_mx {f : Addr} {fd : FuncData} (F : Fun K "_law_mixed" "_law_mixed" sMx f fd) (T : Bi mg) : FnOk P w K mg base CX0 1 f fd ["_law_cell", "_law_k"] spMx := by
  refine F.ok scMx (fun vs H Q E h => ?_) (fun cdv A outer s H vs Q E hr h => ?_)
  · obtain ⟨cc, k, rfl, _⟩ := h
    rfl
  · obtain ⟨cc, k, rfl, k0, k1, q⟩ := h
    refine ⟨_, pss_cons (ps_set (i := 2) scMx.nd rfl (Or.inl rfl) (pe_op op_mod (pe_op op_add (pe_op op_add (pe_op op_mul (pe_op op_mod (pv 0) pe_int) (pe_op op_add pe_int (pe_op op_mul pe_int (pv 1)))) (pe_op op_mul (pe_op op_mul (pv 1) (pv 1)) pe_int)) pe_int) pe_int))
      (pss_cons (ps_set (i := 3) scMx.nd rfl (Or.inl rfl) (pe_op op_mod (pe_op op_add (pe_op op_mul (pv 2) (pv 2)) (pe_op op_mul (pv 1) pe_int)) pe_int))
      (pss_one (ps_ret (pe_op op_mod (pe_op op_mul (pv 3) (pv 3)) pe_int)))), ?_⟩
    have a1 := mod_lo (n := cc) (p := 2147483629) (by decide)
    have a2 := mod_hi (n := cc) (p := 2147483629) (by decide)
    refine ⟨_, rfl, _, _, rfl, rfl, (by show (0 : Int) < 2147483629; decide), _, rfl, _, _, rfl, rfl, .inl ⟨by decide, by decide⟩, _, _, rfl, rfl, _, _, rfl, rfl, .inl ⟨by omega, by omega⟩, _, rfl, _, rfl, _, _, rfl, rfl, .inl ⟨by omega, by omega⟩, _, _, rfl, rfl, .inr ⟨by decide, by decide⟩, _, _, rfl, rfl, _, _, rfl, rfl, _, _, rfl, rfl, (by show (0 : Int) < 2147483647; decide), ?_⟩
    generalize hX : cc % 2147483629 * (48271 + 2 * k) + k * k * 7919 + 104729 = X
    have b1 := mod_lo (n := X) (p := 2147483647) (by decide)
    have b2 := mod_hi (n := X) (p := 2147483647) (by decide)
    refine ⟨_, rfl, _, rfl, _, _, rfl, rfl, .inl ⟨by omega, by omega⟩, _, rfl, _, _, rfl, rfl, .inl ⟨by omega, by omega⟩, _, _, rfl, rfl, _, _, rfl, rfl, (by show (0 : Int) < 2147483587; decide), ?_⟩
    generalize hY : X % 2147483647 * (X % 2147483647) + k * 40692 = Y
    have c1 := mod_lo (n := Y) (p := 2147483587) (by decide)
    have c2 := mod_hi (n := Y) (p := 2147483587) (by decide)
    refine ⟨_, rfl, _, rfl, _, _, rfl, rfl, .inl ⟨by omega, by omega⟩, _, _, rfl, rfl, (by show (0 : Int) < 2147483579; decide), ?_⟩
    exact q _ (mod_lo (by decide))
end
theorem set_map (cs : List Int) (k : Nat) (v : Int) : (cs.map V.int).set k (.int v) = (cs.set k v).map V.int := by rw [List.map_set]
theorem get_map {cs : List Int} {k : Nat} (h : k < cs.length) : (cs.map V.int)[k]? = some (.int cs[k]) := by rw [List.getElem?_map, List.getElem?_eq_getElem h]; rfl
section
variable {P : Program} {w : World} {K : PySem.W.Frag} {mg : Str → Option Value} {base : Heap} {Pt c : Addr}
abbrev sDs : Stmt := top 30
abbrev nDs : List Str := ["_law_script", "_law_many", "_law_cells", "_law_by_digits", "_law_found", "_law_k", "_law_at"]
def spDs (K : PySem.W.Frag) : Sp := fun vs H Q _ => ∃ (a : Addr) (ns : List Int), vs = [.ref a, .int 330] ∧ SqL K H a (ns.map V.int) ∧ ns.length ≤ 63 ∧ ∀ H' d ds, Same H H' → H' d = some (.lst (ds.map V.int)) → Dr ds → Q (.ref d) H'
theorem scDs : FnScope nDs ["_law_script", "_law_many"] (defScope sDs) := ⟨rfl, rfl, rfl, by decide +kernel, rfl, by decide +kernel, by decide +kernel⟩
theorem ok_ds {f : Addr} {fd : FuncData} (F : Fun K "_law_draws" "_law_draws" sDs f fd) (T : Bi mg) (FM : FnE P w K mg base "_law_mixed" ["_law_cell", "_law_k"] 1 spMx) : FnOk P w K mg base CX0 2 f fd ["_law_script", "_law_many"] (spDs K) := by
  refine F.ok scDs (fun vs H Q E h => ?_) (fun cdv A outer s H vs Q E hr h => ?_)
  · obtain ⟨a, ns, rfl, _⟩ := h
    rfl
  · obtain ⟨a, ns, rfl, hS, hl, q⟩ := h
    obtain ⟨tR, hR, rest⟩ : ∃ t, PSs (cxOf CX0 P w K mg base nDs "_law_draws" (defScope sDs) f cdv A outer s H E).nox ((defBody sDs).drop 2) t ∧ ∀ (H1 : Hp) (C : Addr) (cs : List Int), Same H H1 → H C = none → H1 C = some (.lst (cs.map V.int)) → 0 < cs.length → cs.length ≤ 63 →
        t { nx := fun _ H' => Q .non H', rt := Q } [some (.ref a), some (.int 330), some (.ref C), none, none, none, none] H1 := by
      refine ⟨_, pss_cons (ps_set (i := 3) scDs.nd rfl (Or.inl rfl) (pe_cmpR op_eq (pe_op op_mod (pe_ix ix_list (pv 2) pe_int (fun _ _ => rfl)) pe_int) pe_int (nomark _)))
        (pss_cons (ps_asg (pe_op op_fdiv (pe_ix ix_list (pv 2) pe_int (fun _ _ => rfl)) pe_int) (pg_sub (pv 2) pe_int set_listN))
        (pss_cons (ps_set (i := 4) scDs.nd rfl (Or.inl rfl) (pe_lst pa_nil))
        (pss_cons (ps_for PassesOwn.never rfl (pi_range1 rfl T.range (pa_c (pv 1) pa_nil)) (pg_name (i := 5) scDs.nd rfl (Or.inl rfl))
          (pss_cons (ps_set (i := 6) scDs.nd rfl (Or.inl rfl) (pe_op op_mod (pv 5) (pe_callB call_len_seq rfl T.len bLen (pa_c (pv 2) pa_nil))))
          (pss_one (ps_if (pt_val (pv 3))
            (pss_cons (ps_expr (pe_bm PySem.F.plainAttrs_list PySem.F.slot_list_append PySem.F.type_list_append mt_append (pv 4) (pa_c (pe_op op_mod (pe_ix ix_list (pv 2) (pv 6) (fun _ _ => rfl)) pe_int) pa_nil)))
            (pss_one (ps_asg (pe_op op_fdivL (pe_ix ix_list (pv 2) (pv 6) (fun _ _ => rfl)) pe_int) (pg_sub (pv 2) (pv 6) set_listN))))
            (pss_one (ps_expr (pe_bm PySem.F.plainAttrs_list PySem.F.slot_list_append PySem.F.type_list_append mt_append (pv 4) (pa_c (pe_fc FM hr (pa_c (pe_ix ix_list (pv 2) (pv 6) (fun _ _ => rfl)) (pa_c (pv 5) pa_nil))) pa_nil))))))))
        (pss_one (ps_ret (pv 4)))))), fun H1 C cs s1 hC0 hC hpos h63 => ?_⟩
      have g0 := atI_nat (get_map hpos)
      refine ⟨_, rfl, C, _, _, _, rfl, rfl, SqL.of hC, g0, _, _, rfl, rfl, (by show (0 : Int) < 2; decide), rfl, ?_⟩
      generalize hb : decide (V.int (cs[0] % 2) = V.int 0) = b
      refine ⟨_, rfl, C, _, _, _, rfl, rfl, SqL.of hC, g0, _, _, rfl, rfl, ⟨by decide, by decide⟩, _, rfl, C, _, 0, rfl, rfl, hC, by rw [List.length_map]; exact hpos, ?_⟩
      rw [set_map]
      refine ⟨(by show 0 ≤ sizeLine; exact Nat.zero_le _), fun D hD => ?_⟩
      have hCD : C ≠ D := fun z => by subst z; rw [upd_same] at hD; cases hD
      have hD0 : H D = none := by
        cases z : H D with
        | none => rfl
        | some o => rw [upd_ne (Ne.symm hCD), s1 D o z] at hD; cases hD
      have sC : ∀ H' o, Same H H' → Same H (upd H' C o) := fun H' o s' c' o' e' => by rw [upd_ne (ne_of_none e' hC0)]; exact s' c' o' e'
      have sD : ∀ H' o, Same H H' → Same H (upd H' D o) := fun H' o s' c' o' e' => by rw [upd_ne (ne_of_none e' hD0)]; exact s' c' o' e'
      refine ⟨_, rfl, 330, rfl, by decide, by decide, for_range (lo := 0) (n := (330 : Int).toNat) (fun i σ H' => ∃ cs ds v5 v6, σ = [some (.ref a), some (.int 330), some (.ref C), some (.bl b), some (.ref D), v5, v6] ∧ H' C = some (.lst (List.map V.int cs)) ∧ 0 < cs.length ∧ H' D = some (.lst (List.map V.int ds)) ∧ ds.length = i ∧ (∀ x ∈ ds, 0 ≤ x) ∧ Same H H')
        ⟨cs.set 0 (cs[0] / 2), [], _, _, rfl, by rw [upd_ne hCD, upd_same], by rw [List.length_set]; exact hpos, upd_same, rfl, (fun x hx => by cases hx), sD _ _ (sC _ _ s1)⟩ (fun i σ H' hi ⟨cs, ds, v5, v6, e, hC', hp', hD', hl', hnn, sH⟩ => ?_) (fun σ H' ⟨cs, ds, v5, v6, e, hC', hp', hD', hl', hnn, sH⟩ => ?_)⟩
      · subst e
        have hi' : i < 330 := hi
        have m1 := mod_lo (n := 0 + (i : Int)) (p := (cs.length : Int)) (by omega)
        have m2 := mod_hi (n := 0 + (i : Int)) (p := (cs.length : Int)) (by omega)
        obtain ⟨k, hk⟩ : ∃ k : Nat, (0 + (i : Int)) % (cs.length : Int) = (k : Int) := ⟨((0 + (i : Int)) % (cs.length : Int)).toNat, by omega⟩
        have hkl : k < cs.length := by omega
        refine ⟨_, rfl, _, rfl, C, _, rfl, .inl (SqL.of hC'), _, _, rfl, rfl, (by show (0 : Int) < ((List.map V.int cs).length : Int); rw [List.length_map]; omega), ?_⟩
        have hk2 : (0 + (i : Int)) % ((List.map V.int cs).length : Int) = (k : Int) := by rw [List.length_map]; exact hk
        simp only [hk2]
        have gk := atI_nat (get_map hkl)
        have szD : (List.map V.int ds).length < sizeLine := by rw [List.length_map, sizeLine_eq]; omega
        refine ⟨_, rfl, _, rfl, ite2 (fun _ => ?_) (fun _ => ?_)⟩
        · refine ⟨_, rfl, .inl ⟨rfl, _, SqL.of hD'⟩, _, rfl, _, rfl, C, _, _, _, rfl, rfl, SqL.of hC', gk, _, _, rfl, rfl, (by show (0 : Int) < 2147483579; decide), D, _, _, rfl, rfl, hD', szD, ?_⟩
          have hC2 : (upd H' D (.lst (List.map V.int ds ++ [.int (cs[k] % 2147483579)]))) C = some (.lst (List.map V.int cs)) := by rw [upd_ne hCD]; exact hC'
          refine ⟨_, rfl, _, rfl, C, _, _, _, rfl, rfl, SqL.of hC2, gk, _, _, rfl, rfl, ⟨by decide, by decide⟩, _, rfl, _, rfl, C, _, k, rfl, rfl, hC2, by rw [List.length_map]; exact hkl, ?_⟩
          rw [set_map]
          refine ⟨cs.set k (cs[k] / 2147483579), ds ++ [cs[k] % 2147483579], _, _, rfl, upd_same, by rw [List.length_set]; exact hp', ?_, by rw [List.length_append, hl']; rfl, fun x hx => ?_, sC _ _ (sD _ _ sH)⟩
          · rw [upd_ne (Ne.symm hCD), upd_same, List.map_append]
            rfl
          · rcases List.mem_append.mp hx with z | z
            · exact hnn x z
            · rw [List.mem_singleton.mp z]; exact mod_lo (by decide)
        · refine ⟨_, rfl, .inl ⟨rfl, _, SqL.of hD'⟩, _, rfl, _, rfl, C, _, _, _, rfl, rfl, SqL.of hC', gk, _, rfl, cs[k], 0 + (i : Int), rfl, by omega, by omega, fun v hv => ?_⟩
          refine ⟨D, _, _, rfl, rfl, hD', szD, cs, ds ++ [v], _, _, rfl, by rw [upd_ne hCD]; exact hC', hp', ?_, by rw [List.length_append, hl']; rfl, fun x hx => ?_, sD _ _ sH⟩
          · rw [upd_same, List.map_append]
            rfl
          · rcases List.mem_append.mp hx with z | z
            · exact hnn x z
            · rw [List.mem_singleton.mp z]; exact hv
      · subst e
        exact ⟨_, rfl, q H' D ds sH hD' ⟨hl', hnn⟩⟩
    refine ⟨_, pss_cons (ps_set (i := 2) scDs.nd rfl (Or.inl rfl) (pe_callTy call_list_of rfl T.list bList (pa_c (pv 0) pa_nil)))
      (pss_cons (ps_if (pt_cmpR op_eq (pe_callB call_len_seq rfl T.len bLen (pa_c (pv 2) pa_nil)) pe_int (nomark _)) (pss_one (ps_set (i := 2) scDs.nd rfl (Or.inl rfl) (pe_lst (pa_c pe_int pa_nil)))) pss_nil) hR), ?_⟩
    refine ⟨_, rfl, a, _, rfl, .inl hS, fun C hC => ?_⟩
    refine ⟨_, rfl, C, _, rfl, .inl (SqL.of upd_same), rfl, _, rfl, ?_⟩
    refine ite2 (fun h0 => ?_) (fun h0 => ?_)
    · refine ⟨(by show 1 ≤ sizeLine; decide), fun C2 hC2 => ?_⟩
      have hC20 : H C2 = none := by
        cases z : H C2 with
        | none => rfl
        | some o => rw [same_new hC C2 o z] at hC2; cases hC2
      exact rest _ C2 [1] (Same.trans (same_new hC) (same_new hC2)) hC20 upd_same (by decide) (by decide)
    · refine rest _ C ns (same_new hC) hC upd_same ?_ hl
      rcases Nat.eq_zero_or_pos ns.length with z | z
      · refine absurd ?_ h0
        rw [List.length_map, z]
        rfl
      · exact z
end
section
variable {P : Program} {w : World} {K : PySem.W.Frag} {mg : Str → Option Value} {base : Heap}
abbrev sDraw : Stmt := top 31
def spDraw (K : PySem.W.Frag) : Sp := fun vs H Q _ => ∃ (a : Addr) (ns : List Int) (k : Int), vs = [.ref a, .int k] ∧ SqL K H a (ns.map V.int) ∧ Dr ns ∧ 0 ≤ k ∧ k ≤ 329 ∧ Q (.int (draw ns k)) H
theorem scDraw : FnScope ["_law_draws_here", "_law_k"] ["_law_draws_here", "_law_k"] (defScope sDraw) := ⟨rfl, rfl, rfl, by decide +kernel, rfl, by decide +kernel, by decide +kernel⟩
theorem ok_draw {f : Addr} {fd : FuncData} (F : Fun K "_law_draw" "_law_draw" sDraw f fd) (T : Bi mg) : FnOk P w K mg base CX0 1 f fd ["_law_draws_here", "_law_k"] (spDraw K) := by
  refine F.ok scDraw (fun vs H Q E h => ?_) (fun cdv A outer s H vs Q E hr h => ?_)
  · obtain ⟨a, ns, k, rfl, _⟩ := h
    rfl
  · obtain ⟨a, ns, k, rfl, hS, hd, k0, k1, q⟩ := h
    obtain ⟨j, rfl⟩ : ∃ j : Nat, k = (j : Int) := ⟨k.toNat, by omega⟩
    have hj : j < ns.length := by rw [hd.1]; omega
    refine ⟨_, pss_one (ps_ret (pe_ix ix_list (pv 0) (pv 1) (fun _ _ => rfl))), ?_⟩
    refine ⟨_, rfl, _, rfl, a, _, _, _, rfl, rfl, hS, atI_nat (v := .int ns[j]) (by rw [List.getElem?_map, List.getElem?_eq_getElem hj]; rfl), ?_⟩
    have e : draw ns (j : Int) = ns[j] := by
      unfold draw
      rw [Int.toNat_natCast, List.getD_eq_getElem?_getD, List.getElem?_eq_getElem hj]
      have := hd.2 ns[j] (List.getElem_mem hj)
      show ((ns[j].natAbs : Nat) : Int) = ns[j]
      omega
    rw [e] at q
    exact q
end
end My
set_option Elab.async false
set_option linter.all false
set_option maxRecDepth 100000
set_option maxHeartbeats 4000000
namespace L2
open PySem PySem.Spec PyProof.Rows
structure FunC (K : PySem.W.Frag) (x qual : Str) (st : Stmt) (f : Addr) (fd : FuncData) (c : Addr) : Prop where
  ex : ∃ (oc : Value) (od : Option Addr) (kV doc pm : Value) (an : Option Addr) (ct : Value) (osl : Array (Option Value)),
    fd = PySem.W.fnOf x qual (defArgs st) (defBody st) (defScope st) .none kV doc pm an (.ref c) ct ∧ K.lookup f = some ⟨oc, od, .func fd, osl⟩ ∧ PySem.W.codeIn K (.ref c) qual = true
section
variable {P : Program} {w : World} {K : PySem.W.Frag} {mg : Str → Option Value} {base : Heap}
theorem FunC.ok {x qual : Str} {st : Stmt} {f c : Addr} {fd : FuncData} {N ps : List Str} {k : Nat} {sp : Sp} (F : FunC K x qual st f fd c) (S : FnScope N ps (defScope st)) (len : ∀ vs H Q E, sp vs H Q E → vs.length = ps.length)
    (hbody : ∀ (A : Around) (outer : List Env) (s : Shared) (H : Hp) (vs : List V) (Q : VK) (E : XK), Room k (A.deeper (envOfC qual (defScope st) s.heap.objs.size f (.ref c))) → sp vs H Q E →
      ∃ t, PSs (cxOf CX0 P w K mg base N qual (defScope st) f (.ref c) A outer s H E).nox (defBody st) t ∧ t { nx := fun _ H' => Q .non H', rt := Q } (start N vs) H) : FnOk P w K mg base CX0 (k + 1) f fd ps sp := by
  obtain ⟨oc, od, kV, doc, pm, an, ct, osl, rfl, lk, hcd⟩ := F.ex
  refine fn_of lk hcd S len fun A outer s H vs Q E hr hsp => ?_
  obtain ⟨t, h, q⟩ := hbody A outer s H vs Q E hr hsp
  exact ⟨t, h.nox, q⟩
end
theorem Gr.none {P : Addr} {pos : Pos} {qual : Str} {H H' : Hp} (g : Gr P pos qual H H') {d : Addr} (h : H' d = Option.none) : H d = Option.none := by
  cases q : H d with
  | none => rfl
  | some o =>
    by_cases hd : d = P
    · subst hd
      rcases g.tab with t | ⟨c', t, _⟩
      · rw [h] at t; cases t
      · rw [h] at t; cases t
    · rw [g.keep d o q hd] at h; cases h
theorem Gr.new {P : Addr} {pos : Pos} {qual : Str} {H H' : Hp} (g : Gr P pos qual H H') {d : Addr} {o : HO} (h : H' d = Option.none) : Gr P pos qual H (upd H' d o) := g.same (same_new h)
theorem Gr.lst {P : Addr} {pos : Pos} {qual : Str} {H H' : Hp} (g : Gr P pos qual H H') {d : Addr} {xs ys : List V} (h : H' d = some (.lst xs)) (hn : H d = Option.none) : Gr P pos qual H (upd H' d (.lst ys)) := by
  refine ⟨fun b o e n => by rw [upd_ne (ne_of_none e hn)]; exact g.keep b o e n, ?_⟩
  rcases g.tab with t | ⟨c', t, u⟩
  · exact .inl (by rw [upd_ne (ne_of t h fun z => nomatch z)]; exact t)
  · exact .inr ⟨c', by rw [upd_ne (ne_of t h fun z => nomatch z)]; exact t, by rw [upd_ne (ne_of u h fun z => nomatch z)]; exact u⟩
def Tk (H H' : Hp) : Prop := ∀ q xs, H q = some (.tup xs) → H' q = some (.tup xs)
theorem Tk.trans {H H1 H2 : Hp} (a : Tk H H1) (b : Tk H1 H2) : Tk H H2 := fun q xs e => b q xs (a q xs e)
theorem Same.tk {H H' : Hp} (s : Same H H') : Tk H H' := fun q xs e => s q _ e
theorem Gr.tk {P : Addr} {pos : Pos} {qual : Str} {H H' : Hp} (g : Gr P pos qual H H') (t : TabI P pos qual H) : Tk H H' := fun q xs e => g.keep q _ e fun z => by
  subst z
  rcases t with t | ⟨c', t, _⟩
  · rw [e] at t; cases t
  · rw [e] at t; cases t
theorem tk_lst {H : Hp} {d : Addr} {xs ys : List V} (h : H d = some (.lst xs)) : Tk H (upd H d (.lst ys)) := fun q zs e => by rw [upd_ne (ne_of e h fun z => nomatch z)]; exact e
def kwLam : Stmt → Expr
  | .Assign _ (.Call _ _ [⟨_, e, _⟩] _) _ => e
  | _ => .Constant .none 0 ⟨0, 0, 0, 0⟩
def lamScope : Expr → Scope
  | .Lambda _ _ s _ => s
  | _ => { kind := .function, names := [], isGenerator := false, isCoroutine := false }
def lamArgs : Expr → Arguments
  | .Lambda a _ _ _ => a
  | _ => { posonlyargs := [], args := [], vararg := none, kwonlyargs := [], kw_defaults := [], kwarg := none, defaults := [] }
end L2
set_option Elab.async false
set_option linter.all false
set_option maxRecDepth 100000
set_option maxHeartbeats 4000000
namespace My
def atB (e : Nat × Nat) (p : Nat) : Bool := p == e.1 || p == e.2
theorem atB_iff {e : Nat × Nat} {p : Nat} : atB e p = true ↔ At e p := by
  unfold atB At
  rw [Bool.or_eq_true, beq_iff_eq, beq_iff_eq]
def dg (es : List (Nat × Nat)) (k p : Nat) : Nat := ((List.range k).filter fun j => atB (es.getD j (0, 0)) p).length
theorem dg_succ (es : List (Nat × Nat)) (k p : Nat) : dg es (k + 1) p = dg es k p + if atB (es.getD k (0, 0)) p then 1 else 0 := by
  unfold dg
  rw [List.range_succ, List.filter_append, List.length_append]
  congr 1
  rw [List.filter_cons]
  split <;> rfl
def IsMax (xs : List Int) (M : Int) : Prop := (xs = [] ∧ M = 0) ∨ (M ∈ xs ∧ ∀ a ∈ xs, a ≤ M)
def dl (es : List (Nat × Nat)) (n : Nat) : List Int := (List.range n).map fun p : Nat => (dg es es.length p : Int)
theorem most_le {es : List (Nat × Nat)} {n : Nat} {M : Int} (h : IsMax (dl es n) M) {p : Nat} (hp : p < n) : (dg es es.length p : Int) ≤ M := by
  have hm : (dg es es.length p : Int) ∈ dl es n := List.mem_map.mpr ⟨p, List.mem_range.mpr hp, rfl⟩
  rcases h with ⟨e, _⟩ | ⟨_, h⟩
  · rw [e] at hm; cases hm
  · exact h _ hm
theorem dg_le (es : List (Nat × Nat)) (k p : Nat) : dg es k p ≤ k := by
  unfold dg
  exact Nat.le_trans (List.length_filter_le _ _) (by rw [List.length_range]; exact Nat.le_refl _)
theorem most_nn {es : List (Nat × Nat)} {n : Nat} {M : Int} (h : IsMax (dl es n) M) : 0 ≤ M ∧ M ≤ es.length := by
  rcases h with ⟨_, h⟩ | ⟨h, _⟩
  · omega
  · obtain ⟨p, _, rfl⟩ := List.mem_map.mp h
    have := dg_le es es.length p
    omega
theorem sub_len : ∀ {a b : List Nat}, a.Nodup → (∀ x ∈ a, x ∈ b) → a.length ≤ b.length
  | [], b, _, _ => Nat.zero_le _
  | x :: a, b, nd, h => by
    have nd' := List.nodup_cons.mp nd
    have hx : x ∈ b := h x (.head _)
    have ih := sub_len (a := a) (b := b.erase x) nd'.2 fun y hy => (List.mem_erase_of_ne (fun (z : y = x) => nd'.1 (z ▸ hy))).mpr (h y (.tail _ hy))
    rw [List.length_erase_of_mem hx] at ih
    have : 0 < b.length := List.length_pos_of_mem hx
    rw [List.length_cons]
    omega
theorem clean_set {es : List (Nat × Nat)} {tl : List (Option Nat)} {k t : Nat} (hC : CleanTo es tl es.length) (hl : tl.length = es.length) (hk : k < es.length) (n1 : ¬ Used es tl es.length (es.getD k (0, 0)).1 t) (n2 : ¬ Used es tl es.length (es.getD k (0, 0)).2 t) :
    CleanTo es (tl.set k (some t)) es.length := by
  have nu : ∀ p, At (es.getD k (0, 0)) p → ¬ Used es tl es.length p t := fun p hp => by
    rcases hp with rfl | rfl
    · exact n1
    · exact n2
  intro i j t' hj hi h1 h2 p hp hq
  rw [List.getElem?_set] at h1 h2
  by_cases e1 : k = i
  · subst e1
    rw [if_pos rfl, if_pos (by omega)] at h1
    cases h1
    rw [if_neg (by omega)] at h2
    exact nu p hp ⟨j, by omega, h2, hq⟩
  · rw [if_neg e1] at h1
    by_cases e2 : k = j
    · subst e2
      rw [if_pos rfl, if_pos (by omega)] at h2
      cases h2
      exact nu p hq ⟨i, hi, h1, hp⟩
    · rw [if_neg e2] at h2
      exact hC i j t' hj hi h1 h2 p hp hq
end My
set_option Elab.async false
set_option linter.all false
set_option maxRecDepth 100000
set_option maxHeartbeats 4000000
namespace L2
open PySem PySem.Spec PyProof.Rows
theorem op_inK {X : Cx} {K : PySem.W.Frag} (hK : X.K = K) : OpR X (compareOp .In) (rIn K false) := by
  subst hK
  exact op_in_seq
theorem pg_tupK {X : Cx} {K : PySem.W.Frag} {es : List Expr} {k : Nat} {t : TGs} {n : Nat} {pos : Pos} (hK : X.K = K) (hc : X.calm = true) (h : PGs X es t) (h1 : (assignEach es X.env).length = n) (h2 : (assignEach es X.env).findIdx? (·.1) = none) : PG X (.Tuple es k pos) (gTup K n t) := by
  subst hK
  exact pg_tup hc h h1 h2
end L2
namespace My
open PySem L2
def compScope : Expr → Scope
  | .ListComp _ _ s _ => s
  | .Call _ [e] _ _ => compScope e
  | .Tuple [_, e] _ _ => compScope e
  | .BinOp _ _ e _ => compScope e
  | .Compare a _ _ _ => compScope a
  | _ => { kind := .function, names := [], isGenerator := false, isCoroutine := false }
def retE : Stmt → Expr
  | .Return (some e) _ => e
  | .Assign _ e _ => e
  | _ => .Constant .none 0 ⟨0, 0, 0, 0⟩
def stOf (i k : Nat) : Stmt := (defBody (top i)).getD k (.Pass ⟨0,0,0,0⟩)
def forB : Stmt → List Stmt
  | .For _ _ b _ _ => b
  | _ => []
theorem lv_map (L : Nat → Nat) (n : Nat) : lv L n = ((List.range n).map fun p : Nat => (L p : Int)).map V.int := by
  unfold lv
  rw [List.map_map]
  rfl
theorem rep_zero (es : List (Nat × Nat)) (N : Nat) : (List.replicate N ([.int 0] : List V)).flatten = lv (dg es 0) N := by
  apply List.ext_getElem?
  intro i
  have hl : (List.replicate N ([.int 0] : List V)).flatten = List.replicate N (.int 0) := by
    induction N with
    | zero => rfl
    | succ n ih => rw [List.replicate_succ, List.flatten_cons, ih]; rfl
  rw [hl]
  by_cases hi : i < N
  · rw [lv_get _ hi, List.getElem?_replicate, if_pos hi]
    rfl
  · rw [List.getElem?_eq_none (by rw [List.length_replicate]; omega), List.getElem?_eq_none (by rw [lv_len]; omega)]
theorem lv_congr {L L' : Nat → Nat} (n : Nat) (h : ∀ p, L p = L' p) : lv L n = lv L' n := by rw [show L = L' from funext h]
theorem dg_two (es : List (Nat × Nat)) (k : Nat) (h : (es.getD k (0, 0)).1 ≠ (es.getD k (0, 0)).2) (p : Nat) :
    put (put (dg es k) (es.getD k (0, 0)).1 (dg es k (es.getD k (0, 0)).1 + 1)) (es.getD k (0, 0)).2 (put (dg es k) (es.getD k (0, 0)).1 (dg es k (es.getD k (0, 0)).1 + 1) (es.getD k (0, 0)).2 + 1) p = dg es (k + 1) p := by
  rw [dg_succ]
  unfold put atB
  by_cases h1 : p = (es.getD k (0, 0)).1
  · have h2 : ¬ p = (es.getD k (0, 0)).2 := fun z => h (h1.symm.trans z)
    rw [if_neg h2, if_pos h1, ← h1]
    simp
  · by_cases h2 : p = (es.getD k (0, 0)).2
    · rw [if_pos h2, if_neg (fun z => h z.symm), ← h2]
      simp
    · rw [if_neg h2, if_neg h1, beq_eq_false_iff_ne.mpr h1, beq_eq_false_iff_ne.mpr h2]
      rfl
section
variable {P : Program} {w : World} {K : PySem.W.Frag} {mg : Str → Option Value} {base : Heap}
abbrev sNum : Stmt := top 1
def spNum : Sp := fun vs H Q _ => ∃ i : Int, vs = [.int i] ∧ Q (.bl true) H
theorem scNum : FnScope ["thing"] ["thing"] (defScope sNum) := ⟨rfl, rfl, rfl, by decide +kernel, rfl, by decide +kernel, by decide +kernel⟩
theorem ok_num {f : Addr} {fd : FuncData} (F : Fun K "is_number" "is_number" sNum f fd) (T : Bi mg) : FnOk P w K mg base CX0 1 f fd ["thing"] spNum := by
  refine F.ok scNum (fun vs H Q E h => ?_) (fun cdv A outer s H vs Q E hr h => ?_)
  · obtain ⟨x, rfl, _⟩ := h
    rfl
  · obtain ⟨i, rfl, q⟩ := h
    refine ⟨_, pss_one (ps_ret (pe_and (pe_callB call_isinst rfl T.isi bIsi (pa_c (pv 0) (pa_c (pe_bltn (v := .ty "int") rfl T.int bInt rfl) pa_nil)))
      (pe_one (pe_not (pe_callB call_isinst rfl T.isi bIsi (pa_c (pv 0) (pa_c (pe_bltn (v := .ty "bool") rfl T.bool bBool rfl) pa_nil))))))), ?_⟩
    exact ⟨_, rfl, _, _, _, _, rfl, .int i, kit K "int" "int" true (by decide +kernel), _, rfl, iteT ⟨_, rfl, _, _, _, _, rfl, .int i, kit K "int" "bool" false (by decide +kernel), _, rfl, q⟩⟩
abbrev sBel : Stmt := top 2
def spBel : Sp := fun vs H Q _ => ∃ i n : Int, vs = [.int i, .int n] ∧ 0 ≤ i ∧ i < n ∧ Q (.bl true) H
theorem scBel : FnScope ["thing", "bound"] ["thing", "bound"] (defScope sBel) := ⟨rfl, rfl, rfl, by decide +kernel, rfl, by decide +kernel, by decide +kernel⟩
theorem ok_bel {f : Addr} {fd : FuncData} (F : Fun K "is_below" "is_below" sBel f fd) (FN : FnE P w K mg base "is_number" ["thing"] 1 spNum) : FnOk P w K mg base CX0 2 f fd ["thing", "bound"] spBel := by
  refine F.ok scBel (fun vs H Q E h => ?_) (fun cdv A outer s H vs Q E hr h => ?_)
  · obtain ⟨x, n, rfl, _⟩ := h
    rfl
  · obtain ⟨i, n, rfl, h0, h1, q⟩ := h
    refine ⟨_, pss_one (ps_ret (pe_and (pe_fc FN hr (pa_c (pv 0) pa_nil)) (pe_one (pe_chain op_le op_lt pe_int (pv 0) (pv 1))))), ?_⟩
    refine ⟨_, rfl, i, rfl, _, rfl, ?_⟩
    refine iteT ⟨_, rfl, _, _, rfl, rfl, _, rfl, ?_⟩
    refine ite2 (fun z => ?_) (fun z => absurd (decide_eq_true h0) z)
    refine ⟨_, rfl, _, _, rfl, rfl, ?_⟩
    show Q (.bl (decide (i < n))) H
    rw [decide_eq_true h1]
    exact q
abbrev sMo : Stmt := top 5
def spMo : Sp := fun vs H Q _ => ∃ p n q ts es, vs = [.ref p] ∧ NetZ H p n q ts es ∧ ∀ H' M, Same H H' → IsMax (dl es n) M → Q (.int M) H'
theorem scMo : FnScope ["net", "crowds", "ends", "point"] ["net"] (defScope sMo) := ⟨rfl, rfl, rfl, by decide +kernel, rfl, by decide +kernel, by decide +kernel⟩
theorem ok_mo {f : Addr} {fd : FuncData} (F : Fun K "most_of" "most_of" sMo f fd) (T : Bi mg) : FnOk P w K mg base CX0 1 f fd ["net"] spMo := by
  refine F.ok scMo (fun vs H Q E h => ?_) (fun cdv A outer s H vs Q E hr h => ?_)
  · obtain ⟨p, n, q, ts, es, rfl, _⟩ := h
    rfl
  · obtain ⟨p, n, qa, ts, es, rfl, N, q⟩ := h
    refine ⟨_, pss_cons (ps_set (i := 1) scMo.nd rfl (Or.inl rfl) (pe_op op_rep (pe_lst (pa_c pe_int pa_nil)) (pe_ix ix_tup (pv 0) pe_int (fun _ _ => rfl))))
      (pss_cons (ps_for PassesOwn.never rfl (pi_tup (pe_ix ix_tup (pv 0) pe_int (fun _ _ => rfl))) (pg_name (i := 2) scMo.nd rfl (Or.inl rfl))
        (pss_one (ps_for PassesOwn.never rfl (pi_tup (pv 2)) (pg_name (i := 3) scMo.nd rfl (Or.inl rfl)) (pss_one (ps_augS (pv 1) (pv 3) get_list pe_int ip_add set_listN)))))
      (pss_one (ps_ret (pe_maxD (d := 0) rfl (pv 1) pe_int rfl T.max rfl)))), ?_⟩
    have h60 := N.n60
    refine ⟨(by show 1 ≤ sizeLine; decide), fun b hb => ?_⟩
    refine ⟨_, rfl, p, _, _, _, rfl, rfl, SqT.of (by rw [upd_ne (ne_of_none N.e1 hb)]; exact N.e1), rfl, b, (n : Int), _, rfl, rfl, upd_same, (by omega), (by omega), (by rw [sizeLine_eq]; show 1 * ((n : Int)).toNat ≤ _; omega), fun D hD => ?_⟩
    have s1 : Same H (upd (upd H b (.lst [.int 0])) D (.lst (List.replicate ((n : Int)).toNat ([.int 0] : List V)).flatten)) := Same.trans (same_new hb) (same_new hD)
    have hD0 : H D = none := (same_new hb).none hD
    rw [Int.toNat_natCast, rep_zero es]
    rw [Int.toNat_natCast, rep_zero es] at s1
    have step : ∀ (H2 : Hp) (g : Nat → Nat) (k : Nat), k < n → Same H H2 → H2 D = some (.lst (lv g n)) → ∀ (Q' : Hp → Prop), (∀ H3, Same H H3 → H3 D = some (.lst (lv (put g k (g k + 1)) n)) → Q' H3) →
        gGetL (.ref D) (.int (k : Int)) H2 fun x H3 => ipI (fun i j => i + j) x (.int 1) H3 fun z H5 => rSetN (.ref D) (.int (k : Int)) z H5 Q' := by
      intro H2 g k hk s2 hg Q' q'
      refine ⟨D, _, k, .int (g k : Int), rfl, rfl, hg, lv_get _ hk, (g k : Int), 1, rfl, rfl, D, _, k, rfl, rfl, hg, by rw [lv_len]; exact hk, q' _ (s2.wr hD0) ?_⟩
      rw [upd_same, ← lv_set]
      rfl
    refine ⟨_, rfl, p, _, _, _, rfl, rfl, SqT.of (s1 _ _ N.e1), rfl, qa, rfl, ⟨_, SqT.of (s1 _ _ N.e2)⟩, for_tup (K := K) (a := qa) (xs := ts) (fun i σ H' => (∃ v2 v3, σ = [some (.ref p), some (.ref D), v2, v3]) ∧ Same H H' ∧ H' D = some (.lst (lv (dg es i) n))) ⟨⟨_, _, rfl⟩, s1, upd_same⟩ (fun i σ H' _ z => SqT.of (z.2.1 _ _ N.e2)) (fun i x σ H' hx ⟨⟨v2, v3, e⟩, sH, hc⟩ => ?_) (fun σ H' ⟨⟨v2, v3, z1⟩, z2, z3⟩ => ?_)⟩
    · subst e
      obtain ⟨a, rfl, ha⟩ := N.tie i x hx
      have hlt : i < es.length := by rw [← N.len]; exact (List.getElem?_eq_some_iff.mp hx).1
      obtain ⟨a1, b1, ab⟩ := N.ok _ (getD_mem hlt)
      have tw := dg_two es i ab
      generalize hA : (es.getD i (0, 0)).1 = A1 at *
      generalize hB : (es.getD i (0, 0)).2 = B1 at *
      refine ⟨_, rfl, a, rfl, ⟨_, SqT.of (sH _ _ ha)⟩, for_tup (K := K) (a := a) (xs := [.int (A1 : Int), .int (B1 : Int)]) (fun j σ H2 => (∃ v3, σ = [some (.ref p), some (.ref D), some (.ref a), v3]) ∧ Same H H2 ∧ H2 D = some (.lst (lv (if j = 0 then dg es i else if j = 1 then put (dg es i) A1 (dg es i A1 + 1) else put (put (dg es i) A1 (dg es i A1 + 1)) B1 (put (dg es i) A1 (dg es i A1 + 1) B1 + 1)) n))) ⟨⟨v3, rfl⟩, sH, hc⟩ (fun j σ H2 _ z => SqT.of (z.2.1 _ _ ha)) (fun j y σ H2 hy ⟨⟨v3, e3⟩, s2, h2⟩ => ?_) (fun σ H2 ⟨⟨v3, e3⟩, s2, h2⟩ => ?_)⟩
      · subst e3
        match j, hy with
        | 0, hy =>
          cases hy
          exact ⟨_, rfl, _, rfl, step H2 _ A1 a1 s2 h2 _ fun H3 s3 h3 => ⟨⟨_, rfl⟩, s3, h3⟩⟩
        | 1, hy =>
          cases hy
          exact ⟨_, rfl, _, rfl, step H2 _ B1 b1 s2 h2 _ fun H3 s3 h3 => ⟨⟨_, rfl⟩, s3, h3⟩⟩
      · refine ⟨⟨_, _, e3⟩, s2, ?_⟩
        rw [h2, ← lv_congr n tw]
        rfl
    · subst z1
      rw [show ts.length = es.length from N.len, lv_map] at z3
      refine ⟨_, rfl, D, _, rfl, SqL.of z3, fun M hM => q H' M z2 hM⟩
end
end My
set_option Elab.async false
set_option linter.all false
set_option maxRecDepth 100000
set_option maxHeartbeats 4000000
namespace My
open PySem L2
theorem in_at (p : Nat) (e : Nat × Nat) : inV (.int (p : Int)) [.int (e.1 : Int), .int (e.2 : Int)] = true ↔ At e p := by
  unfold inV At
  simp only [List.any_cons, List.any_nil, Bool.or_false, eqV, Bool.or_eq_true]
  constructor
  · rintro (h | h)
    · left; have := eq_of_beq h; omega
    · right; have := eq_of_beq h; omega
  · rintro (h | h)
    · left; exact beq_iff_eq.mpr (by rw [h])
    · right; exact beq_iff_eq.mpr (by rw [h])
section
variable {P : Program} {w : World} {K : PySem.W.Frag} {mg : Str → Option Value} {base : Heap}
abbrev sTa : Stmt := top 16
abbrev taScope : Scope := compScope (retE (stOf 16 0))
abbrev nTa : List Str := ["net", "tints", "point"]
def spTa (P : Program) (w : World) : Sp := fun vs H Q _ => ∃ (p r : Addr) (n : Nat) (q : Addr) (ts : List V) (es : List (Nat × Nat)) (tl : List (Option Nat)) (pt : Nat), vs = [.ref p, .ref r, .int (pt : Int)] ∧ NetZ H p n q ts es ∧ H r = some (.tup (tv tl)) ∧ tl.length = es.length ∧
  ∀ H' d kvs, Same H H' → H' d = some (dnHO P w d kvs) → (∀ t : Nat, (valV kvs (some (t : Int))).isSome = true ↔ Used es tl es.length pt t) → Q (.ref d) H'
theorem ndTa : (["ends", "tint", "point"] : List Str).Nodup := by decide +kernel
theorem scTa : FnScope nTa ["net", "tints", "point"] (defScope sTa) := ⟨rfl, rfl, rfl, by decide +kernel, rfl, by decide +kernel, by decide +kernel⟩
theorem blkTa {f : Addr} {cdv : Value} {A : Around} {outer : List Env} {s : Shared} {H : Hp} {E : XK} :
    Blk (cxOf CX0 P w K mg base nTa "tints_at" (defScope sTa) f cdv A outer s H E).nox taScope [("point", s.heap.objs.size + 1)] ["ends", "tint", "point"] [none, none, some 2] := by
  refine ⟨rfl, rfl, by decide +kernel, by decide +kernel, fun p hp => ?_, fun y hy e => ?_, ⟨rfl, rfl, rfl⟩, trivial⟩
  · rw [List.mem_singleton.mp hp]
    rfl
  · have hy' : y ∈ [((PySem.Str.ofString ".0" : Str), NameKind.local), (PySem.Str.ofString "ends", .local), (PySem.Str.ofString "tint", .local), (PySem.Str.ofString "point", .free)] := hy
    simp only [List.mem_cons, List.not_mem_nil, or_false] at hy'
    rcases hy' with rfl | rfl | rfl | rfl <;> first | rfl | cases e
theorem ok_ta {f : Addr} {fd : FuncData} (F : Fun K "tints_at" "tints_at" sTa f fd) (T : Bi mg) : FnOk P w K mg base CX0 1 f fd ["net", "tints", "point"] (spTa P w) := by
  refine F.ok scTa (fun vs H Q E h => ?_) (fun cdv A outer s H vs Q E hr h => ?_)
  · obtain ⟨p, r, n, q, ts, es, tl, pt, rfl, _⟩ := h
    rfl
  · obtain ⟨p, r, n, qa, ts, es, tl, pt, rfl, N, hR, htl, q⟩ := h
    refine ⟨_, pss_one (ps_ret (pe_callTy (call_dictN hr) rfl T.dict bDict (pa_c (pe_lcZ blkTa rfl rfl T.zip (pa_c (pe_ix ix_tup (pv 0) pe_int (fun _ _ => rfl)) (pa_c (pv 1) pa_nil)) (monoA_cons (mono_ixT (mono_var 0) (mono_c _)) (monoA_cons (mono_var 1) monoA_nil)) rfl rfl
      (fun C fp s H => pg_tupK (K := K) (n := 2) rfl rfl (@pgs_cons _ _ _ _ _ (pg_name (i := 0) ndTa rfl (Or.inl rfl) (hf := Or.inr rfl)) (@pgs_cons _ _ _ _ _ (pg_name (i := 1) ndTa rfl (Or.inl rfl) (hf := Or.inr rfl)) pgs_nil rfl) rfl) rfl rfl)
      (fun C fp s H => pts_one (pt_cmpR (op_inK rfl) (pv 2) (pv 0) rfl)) (fun C fp s H => pe_tupS (pa_c (pv 1) (pa_c pe_bl pa_nil)))) pa_nil))), ?_⟩
    have h200 := N.l200
    have hlen := N.len
    refine ⟨_, rfl, p, _, _, _, rfl, rfl, SqT.of N.e1, rfl, _, rfl, qa, r, ts, tv tl, rfl, SqT.of N.e2, SqT.of hR, (by rw [tv_len]; omega), (by omega),
      fun i ys σ H' => Same H H' ∧ ys.length ≤ i ∧ (∃ ps : List (Option Int × V), ys.length = ps.length ∧ (∀ (j : Nat) y pr, ys[j]? = some y → ps[j]? = some pr → ∃ b, y = .ref b ∧ H' b = some (.tup [nV pr.1, pr.2])) ∧ ∀ t : Nat, (∃ pr ∈ ps, pr.1 = some (t : Int)) ↔ Used es tl i pt t) ∧ ∃ v0 v1, σ = [v0, v1, some (.int (pt : Int))],
      ⟨Same.refl H, Nat.le_refl _, ⟨[], rfl, (fun j y pr z => by rw [List.getElem?_nil] at z; cases z), fun t => ⟨(fun ⟨pr, z, _⟩ => by cases z), fun z => absurd z Used.zero⟩⟩, none, none, rfl⟩,
      fun i ys σ H' hi ⟨sH, hl, _⟩ => ⟨SqT.of (sH _ _ N.e2), SqT.of (sH _ _ hR), hl⟩, fun i x y ys σ H' hx hy ⟨sH, hl, ⟨ps, h1, h2, h3⟩, v0, v1, e⟩ TT H1 s1 hTT => ?_, fun ys σ H' ⟨sH, hl, ⟨ps, h1, h2, h3⟩, _⟩ l H2 s2 hl2 => ?_⟩
    · subst e
      have hi : i < ts.length := (List.getElem?_eq_some_iff.mp hx).1
      obtain ⟨o, ho, rfl⟩ := tv_inv hy
      obtain ⟨a, rfl, ha⟩ := N.tie i x hx
      have sH1 := Same.trans sH s1
      refine ⟨TT, _, rfl, SqT.of hTT, rfl, _, _, rfl, _, _, rfl, rfl, ?_⟩
      refine ⟨_, rfl, _, rfl, a, _, rfl, .inr (SqT.of (sH1 _ _ ha)), rfl, rfl, _, rfl, ?_⟩
      refine ite2 (fun hh => ?_) (fun hh => ?_)
      · have hat := (in_at pt (es.getD i (0, 0))).mp hh
        refine ⟨_, rfl, rfl, fun u H3 s3 hu => ⟨Same.trans sH1 s3, by rw [List.length_append, List.length_singleton]; omega, ⟨ps ++ [(o.map fun t : Nat => (t : Int), .bl true)], by rw [List.length_append, List.length_append, h1]; rfl, fun j y pr z1 z2 => ?_, fun t => ?_⟩, _, _, rfl⟩⟩
        · by_cases hj : j < ys.length
          · rw [List.getElem?_append_left hj] at z1
            rw [List.getElem?_append_left (by omega)] at z2
            obtain ⟨b, e1, e2⟩ := h2 j y pr z1 z2
            exact ⟨b, e1, s3 _ _ (s1 _ _ e2)⟩
          · rw [List.getElem?_append_right (by omega)] at z1
            rw [List.getElem?_append_right (by omega), ← h1] at z2
            have hj0 : j - ys.length = 0 := by
              cases hz : j - ys.length with
              | zero => rfl
              | succ m => rw [hz] at z1; cases z1
            rw [hj0] at z1 z2
            cases z1
            cases z2
            exact ⟨u, rfl, by rw [hu, tN_nV]⟩
        · rw [Used.succ, ← h3 t, ho]
          constructor
          · rintro ⟨pr, hp, e⟩
            rcases List.mem_append.mp hp with z | z
            · exact .inl ⟨pr, z, e⟩
            · rw [List.mem_singleton] at z
              subst z
              right
              cases o with
              | none => cases e
              | some t' =>
                have : t' = t := by have e' : some (t' : Int) = some (t : Int) := e; have := Option.some.inj e'; omega
                subst this
                exact ⟨rfl, hat⟩
          · rintro (⟨pr, hp, e⟩ | ⟨z, _⟩)
            · exact ⟨pr, List.mem_append_left _ hp, e⟩
            · cases z
              exact ⟨_, List.mem_append_right _ (List.mem_singleton.mpr rfl), rfl⟩
      · have hat : ¬ At (es.getD i (0, 0)) pt := fun z => hh ((in_at pt (es.getD i (0, 0))).mpr z)
        refine ⟨sH1, by omega, ⟨ps, h1, fun j y pr z1 z2 => ?_, fun t => ?_⟩, _, _, rfl⟩
        · obtain ⟨b, e1, e2⟩ := h2 j y pr z1 z2
          exact ⟨b, e1, s1 _ _ e2⟩
        · rw [h3 t, Used.succ]
          exact ⟨.inl, fun z => z.elim id fun ⟨_, z⟩ => absurd z hat⟩
    · refine ⟨l, ys, ps, rfl, SqL.of hl2, h1, by omega, fun j y pr z1 z2 => ?_, fun d H3 s3 hd => q H3 d _ (Same.trans (Same.trans sH s2) s3) hd fun t => ?_⟩
      · obtain ⟨b, e1, e2⟩ := h2 j y pr z1 z2
        exact ⟨b, e1, s2 _ _ e2⟩
      · rw [fromPairs_in, h3 t, hlen]
end
noncomputable def frees (es : List (Nat × Nat)) (tl : List (Option Nat)) (pt m : Nat) : List Nat := (List.range m).filter fun t => @decide (¬ Used es tl es.length pt t) (Classical.propDecidable _)
theorem frees_succ_in {es : List (Nat × Nat)} {tl : List (Option Nat)} {pt m : Nat} (h : ¬ Used es tl es.length pt m) : frees es tl pt (m + 1) = frees es tl pt m ++ [m] := by
  unfold frees
  rw [List.range_succ, List.filter_append, List.filter_cons, if_pos (@decide_eq_true _ (Classical.propDecidable _) h)]
  rfl
theorem frees_succ_out {es : List (Nat × Nat)} {tl : List (Option Nat)} {pt m : Nat} (h : Used es tl es.length pt m) : frees es tl pt (m + 1) = frees es tl pt m := by
  unfold frees
  rw [List.range_succ, List.filter_append, List.filter_cons, if_neg (fun z => absurd h (@of_decide_eq_true _ (Classical.propDecidable _) z))]
  simp
theorem frees_len (es : List (Nat × Nat)) (tl : List (Option Nat)) (pt m : Nat) : (frees es tl pt m).length ≤ m := by
  unfold frees
  exact Nat.le_trans (List.length_filter_le _ _) (by rw [List.length_range]; exact Nat.le_refl _)
theorem nl_app (l : List Nat) (x : Nat) : nl l ++ [V.int (x : Int)] = nl (l ++ [x]) := by unfold nl; rw [List.map_append]; rfl
section
variable {P : Program} {w : World} {K : PySem.W.Frag} {mg : Str → Option Value} {base : Heap}
abbrev sFt : Stmt := top 17
abbrev ftScope : Scope := compScope (retE (stOf 17 1))
abbrev nFt : List Str := ["net", "tints", "point", "many", "taken"]
def spFt : Sp := fun vs H Q _ => ∃ (p r : Addr) (n : Nat) (q : Addr) (ts : List V) (es : List (Nat × Nat)) (tl : List (Option Nat)) (pt m : Nat), vs = [.ref p, .ref r, .int (pt : Int), .int (m : Int)] ∧ NetZ H p n q ts es ∧ H r = some (.tup (tv tl)) ∧ tl.length = es.length ∧ m ≤ 1000 ∧
  ∀ H' t, Same H H' → H' t = some (.tup (nl (frees es tl pt m))) → Q (.ref t) H'
theorem ndFt : (["tint", "taken"] : List Str).Nodup := by decide +kernel
theorem scFt : FnScope nFt ["net", "tints", "point", "many"] (defScope sFt) := ⟨rfl, rfl, rfl, by decide +kernel, rfl, by decide +kernel, by decide +kernel⟩
theorem blkFt {f : Addr} {cdv : Value} {A : Around} {outer : List Env} {s : Shared} {H : Hp} {E : XK} :
    Blk (cxOf CX0 P w K mg base nFt "free_tints" (defScope sFt) f cdv A outer s H E).nox ftScope [("taken", s.heap.objs.size + 1)] ["tint", "taken"] [none, some 4] := by
  refine ⟨rfl, rfl, by decide +kernel, by decide +kernel, fun p hp => ?_, fun y hy e => ?_, ⟨rfl, rfl, rfl⟩, trivial⟩
  · rw [List.mem_singleton.mp hp]
    rfl
  · have hy' : y ∈ [((PySem.Str.ofString ".0" : Str), NameKind.local), (PySem.Str.ofString "tint", .local), (PySem.Str.ofString "taken", .free)] := hy
    simp only [List.mem_cons, List.not_mem_nil, or_false] at hy'
    rcases hy' with rfl | rfl | rfl <;> first | rfl | cases e
theorem ok_ft {f : Addr} {fd : FuncData} (F : Fun K "free_tints" "free_tints" sFt f fd) (T : Bi mg) (FA : FnE P w K mg base "tints_at" ["net", "tints", "point"] 1 (spTa P w)) : FnOk P w K mg base CX0 2 f fd ["net", "tints", "point", "many"] spFt := by
  refine F.ok scFt (fun vs H Q E h => ?_) (fun cdv A outer s H vs Q E hr h => ?_)
  · obtain ⟨p, r, n, q, ts, es, tl, pt, m, rfl, _⟩ := h
    rfl
  · obtain ⟨p, r, n, qa, ts, es, tl, pt, m, rfl, N, hR, htl, hm, q⟩ := h
    refine ⟨_, pss_cons (ps_set (i := 4) scFt.nd rfl (Or.inr rfl) (pe_fc FA hr (pa_c (pv 0) (pa_c (pv 1) (pa_c (pv 2) pa_nil)))))
      (pss_one (ps_ret (pe_callTy call_tuple_ofS rfl T.tuple bTuple (pa_c (pe_lcR blkFt rfl rfl T.range (pa_c (pv 3) pa_nil) (monoA_cons (mono_var 3) monoA_nil) rfl (fun C fp s H => pg_name (i := 0) ndFt rfl (Or.inl rfl))
        (fun C fp s H => pts_one (pt_cmp (pc_dnotinNK (P := P) (w := w) rfl rfl (pv 0) (pv 1)))) (fun C fp s H => pv 0)) pa_nil)))), ?_⟩
    refine ⟨_, rfl, _, rfl, _, rfl, p, r, n, qa, ts, es, tl, pt, rfl, N, hR, htl, fun H1 d kvs s1 hd hkv => ?_⟩
    refine ⟨_, rfl, m, rfl, by omega, fun i ys σ H' => Same H1 H' ∧ ys = nl (frees es tl pt i) ∧ ∃ v0, σ = [v0, some (.ref d)], ⟨Same.refl _, rfl, none, rfl⟩, fun i ys σ H' hi ⟨_, e, _⟩ => by subst e; rw [nl_len]; exact frees_len _ _ _ _, fun i ys σ H' hi ⟨sH, e1, v0, e⟩ => ?_, fun ys σ H' ⟨sH, e1, _⟩ l H2 s2 hl => ?_⟩
    · subst e1 e
      refine ⟨_, rfl, _, rfl, d, kvs, some (0 + (i : Int)), rfl, rfl, sH _ _ hd, _, rfl, ?_⟩
      rw [Int.zero_add]
      refine ite2 (fun hz => ?_) (fun hz => ?_)
      · have hu : ¬ Used es tl es.length pt i := fun z => by rw [(hkv i).mpr z] at hz; cases hz
        exact ⟨_, rfl, sH, by rw [frees_succ_in hu, ← nl_app], _, rfl⟩
      · have hu : Used es tl es.length pt i := (hkv i).mp (by
          cases z : (valV kvs (some (i : Int))).isSome with
          | true => rfl
          | false => rw [z] at hz; exact absurd rfl hz)
        exact ⟨sH, by rw [frees_succ_out hu], _, rfl⟩
    · subst e1
      exact ⟨l, _, rfl, .inl hl, fun t H3 s3 ht => q H3 t (Same.trans (Same.trans (Same.trans s1 sH) s2) s3) ht⟩
abbrev sFb : Stmt := top 18
abbrev fbScope : Scope := compScope (retE (stOf 18 1))
abbrev nFb : List Str := ["net", "tints", "one", "other", "many", "taken"]
end
theorem mono_call {sp : Sp} {t : TA} (hs : ∀ vs H Q Q' E, (∀ v H', Q v H' → Q' v H') → sp vs H Q E → sp vs H Q' E) (h : MonoA t) : MonoE (tCall sp [] E0 t) := fun σ H Q Q' k q => h σ H _ _ (fun vs H1 q => hs _ _ _ _ _ k q) q
theorem mono_ft : ∀ vs H Q Q' E, (∀ v H', Q v H' → Q' v H') → spFt vs H Q E → spFt vs H Q' E := fun vs H Q Q' E k ⟨p, r, n, q, ts, es, tl, pt, m, e, N, h1, h2, h3, z⟩ => ⟨p, r, n, q, ts, es, tl, pt, m, e, N, h1, h2, h3, fun H' t s ht => k _ _ (z H' t s ht)⟩
noncomputable def unus (es : List (Nat × Nat)) (tl : List (Option Nat)) (pt : Nat) (l : List Nat) : List Nat := l.filter fun t => @decide (¬ Used es tl es.length pt t) (Classical.propDecidable _)
theorem unus_mem {es : List (Nat × Nat)} {tl : List (Option Nat)} {pt t : Nat} {l : List Nat} : t ∈ unus es tl pt l ↔ t ∈ l ∧ ¬ Used es tl es.length pt t := by
  unfold unus
  rw [List.mem_filter]
  exact ⟨fun ⟨a, b⟩ => ⟨a, @of_decide_eq_true _ (Classical.propDecidable _) b⟩, fun ⟨a, b⟩ => ⟨a, @decide_eq_true _ (Classical.propDecidable _) b⟩⟩
theorem unus_in {es : List (Nat × Nat)} {tl : List (Option Nat)} {pt x i : Nat} {l : List Nat} (hx : l[i]? = some x) (h : ¬ Used es tl es.length pt x) : unus es tl pt (l.take (i + 1)) = unus es tl pt (l.take i) ++ [x] := by
  unfold unus
  rw [List.take_add_one, hx]
  show List.filter _ (l.take i ++ [x]) = _
  rw [List.filter_append, List.filter_cons, if_pos (@decide_eq_true _ (Classical.propDecidable _) h)]
  rfl
theorem unus_out {es : List (Nat × Nat)} {tl : List (Option Nat)} {pt x i : Nat} {l : List Nat} (hx : l[i]? = some x) (h : Used es tl es.length pt x) : unus es tl pt (l.take (i + 1)) = unus es tl pt (l.take i) := by
  unfold unus
  rw [List.take_add_one, hx]
  show List.filter _ (l.take i ++ [x]) = _
  rw [List.filter_append, List.filter_cons, if_neg (fun z => absurd h (@of_decide_eq_true _ (Classical.propDecidable _) z))]
  simp
theorem unus_len (es : List (Nat × Nat)) (tl : List (Option Nat)) (pt : Nat) (l : List Nat) : (unus es tl pt l).length ≤ l.length := List.length_filter_le _ _
theorem frees_mem {es : List (Nat × Nat)} {tl : List (Option Nat)} {pt t m : Nat} : t ∈ frees es tl pt m ↔ t < m ∧ ¬ Used es tl es.length pt t := by
  show t ∈ unus es tl pt (List.range m) ↔ _
  rw [unus_mem, List.mem_range]
noncomputable def both (es : List (Nat × Nat)) (tl : List (Option Nat)) (a b m : Nat) : List Nat := unus es tl b (frees es tl a m)
theorem both_mem {es : List (Nat × Nat)} {tl : List (Option Nat)} {a b t m : Nat} : t ∈ both es tl a b m ↔ t < m ∧ ¬ Used es tl es.length a t ∧ ¬ Used es tl es.length b t := by
  unfold both
  rw [unus_mem, frees_mem, and_assoc]
theorem nl_inv {l : List Nat} {i : Nat} {x : V} (h : (nl l)[i]? = some x) : ∃ y : Nat, l[i]? = some y ∧ x = .int (y : Int) := by
  unfold nl at h
  rw [List.getElem?_map] at h
  cases e : l[i]? with
  | none => rw [e] at h; cases h
  | some y => rw [e] at h; cases h; exact ⟨y, rfl, rfl⟩
section
variable {P : Program} {w : World} {K : PySem.W.Frag} {mg : Str → Option Value} {base : Heap}
def spFb : Sp := fun vs H Q _ => ∃ (p r : Addr) (n : Nat) (q : Addr) (ts : List V) (es : List (Nat × Nat)) (tl : List (Option Nat)) (a b m : Nat), vs = [.ref p, .ref r, .int (a : Int), .int (b : Int), .int (m : Int)] ∧ NetZ H p n q ts es ∧ H r = some (.tup (tv tl)) ∧ tl.length = es.length ∧ m ≤ 1000 ∧
  ∀ H' t, Same H H' → H' t = some (.tup (nl (both es tl a b m))) → Q (.ref t) H'
theorem ndFb : (["tint", "taken"] : List Str).Nodup := by decide +kernel
theorem scFb : FnScope nFb ["net", "tints", "one", "other", "many"] (defScope sFb) := ⟨rfl, rfl, rfl, by decide +kernel, rfl, by decide +kernel, by decide +kernel⟩
theorem blkFb {f : Addr} {cdv : Value} {A : Around} {outer : List Env} {s : Shared} {H : Hp} {E : XK} :
    Blk (cxOf CX0 P w K mg base nFb "free_at_both" (defScope sFb) f cdv A outer s H E).nox fbScope [("taken", s.heap.objs.size + 1)] ["tint", "taken"] [none, some 5] := by
  refine ⟨rfl, rfl, by decide +kernel, by decide +kernel, fun p hp => ?_, fun y hy e => ?_, ⟨rfl, rfl, rfl⟩, trivial⟩
  · rw [List.mem_singleton.mp hp]
    rfl
  · have hy' : y ∈ [((PySem.Str.ofString ".0" : Str), NameKind.local), (PySem.Str.ofString "tint", .local), (PySem.Str.ofString "taken", .free)] := hy
    simp only [List.mem_cons, List.not_mem_nil, or_false] at hy'
    rcases hy' with rfl | rfl | rfl <;> first | rfl | cases e
theorem ok_fb {f : Addr} {fd : FuncData} (F : Fun K "free_at_both" "free_at_both" sFb f fd) (T : Bi mg) (FA : FnE P w K mg base "tints_at" ["net", "tints", "point"] 2 (spTa P w)) (FF : FnE P w K mg base "free_tints" ["net", "tints", "point", "many"] 2 spFt) : FnOk P w K mg base CX0 3 f fd ["net", "tints", "one", "other", "many"] spFb := by
  refine F.ok scFb (fun vs H Q E h => ?_) (fun cdv A outer s H vs Q E hr h => ?_)
  · obtain ⟨p, r, n, q, ts, es, tl, a, b, m, rfl, _⟩ := h
    rfl
  · obtain ⟨p, r, n, qa, ts, es, tl, a, b, m, rfl, N, hR, htl, hm, q⟩ := h
    refine ⟨_, pss_cons (ps_set (i := 5) scFb.nd rfl (Or.inr rfl) (pe_fc FA hr (pa_c (pv 0) (pa_c (pv 1) (pa_c (pv 3) pa_nil)))))
      (pss_one (ps_ret (pe_callTy call_tuple_ofS rfl T.tuple bTuple (pa_c (pe_lcT blkFb rfl (pe_fc FF hr (pa_c (pv 0) (pa_c (pv 1) (pa_c (pv 2) (pa_c (pv 4) pa_nil))))) (mono_call mono_ft (monoA_cons (mono_var 0) (monoA_cons (mono_var 1) (monoA_cons (mono_var 2) (monoA_cons (mono_var 4) monoA_nil)))))
        (fun C fp s H => pg_name (i := 0) ndFb rfl (Or.inl rfl)) (fun C fp s H => pts_one (pt_cmp (pc_dnotinNK (P := P) (w := w) rfl rfl (pv 0) (pv 1)))) (fun C fp s H => pv 0)) pa_nil)))), ?_⟩
    refine ⟨_, rfl, _, rfl, _, rfl, p, r, n, qa, ts, es, tl, b, rfl, N, hR, htl, fun H1 d kvs s1 hd hkv => ?_⟩
    refine ⟨_, rfl, _, rfl, _, rfl, _, rfl, p, r, n, qa, ts, es, tl, a, m, rfl, N.same s1, s1 _ _ hR, htl, hm, fun H2 t s2 ht => ?_⟩
    have hfl := frees_len es tl a m
    refine ⟨t, _, rfl, SqT.of ht, (by rw [nl_len]; omega), fun i ys σ H' => Same H2 H' ∧ ys = nl (unus es tl b ((frees es tl a m).take i)) ∧ ∃ v0, σ = [v0, some (.ref d)], ⟨Same.refl _, rfl, none, rfl⟩, fun i ys σ H' hi ⟨sH, e, _⟩ => ⟨SqT.of (sH _ _ ht), ?_⟩, fun i x ys σ H' hx ⟨sH, e1, v0, e⟩ => ?_, fun ys σ H' ⟨sH, e1, _⟩ l H3 s3 hl => ?_⟩
    · subst e
      rw [nl_len]
      refine Nat.le_trans (unus_len _ _ _ _) ?_
      rw [List.length_take]
      omega
    · subst e1 e
      obtain ⟨y, hy, rfl⟩ := nl_inv hx
      refine ⟨_, rfl, _, rfl, d, kvs, some (y : Int), rfl, rfl, sH _ _ (s2 _ _ hd), _, rfl, ?_⟩
      refine ite2 (fun hz => ?_) (fun hz => ?_)
      · have hu : ¬ Used es tl es.length b y := fun z => by rw [(hkv y).mpr z] at hz; cases hz
        exact ⟨_, rfl, sH, by rw [unus_in hy hu, ← nl_app], _, rfl⟩
      · have hu : Used es tl es.length b y := (hkv y).mp (by
          cases z : (valV kvs (some (y : Int))).isSome with
          | true => rfl
          | false => rw [z] at hz; exact absurd rfl hz)
        exact ⟨sH, by rw [unus_out hy hu], _, rfl⟩
    · subst e1
      rw [nl_len, List.take_length] at hl
      exact ⟨l, _, rfl, .inl hl, fun t' H4 s4 ht' => q H4 t' (Same.trans (Same.trans (Same.trans (Same.trans s1 s2) sH) s3) s4) ht'⟩
end
end My
set_option Elab.async false
set_option linter.all false
set_option maxRecDepth 100000
set_option maxHeartbeats 4000000
namespace L2
open PySem PySem.Spec PyProof.Rows
structure MeE (P : Program) (w : World) (K : PySem.W.Frag) (mg : Str → Option Value) (base : Heap) (C : Addr) (m : Str) (ps : List Str) (k : Nat) (sp : Sp) : Prop where
  ex : ∃ f fd, FnOk P w K mg base CX0 k f fd ps sp ∧ Meth K C m f ∧ Cls K C ∧ Binds K fd ps []
theorem MeE.mono {P : Program} {w : World} {K : PySem.W.Frag} {mg : Str → Option Value} {base : Heap} {C : Addr} {x : Str} {ps : List Str} {j k : Nat} {sp : Sp} (F : MeE P w K mg base C x ps j sp) (h : j ≤ k) : MeE P w K mg base C x ps k sp :=
  let ⟨f, fd, a, b⟩ := F.ex; ⟨f, fd, a.mono h, b⟩
theorem pe_me {X : Cx} {C : Addr} {m : Str} {ps : List Str} {k : Nat} {sp : Sp} {o e : Expr} {es : List Expr} {ta : TE} {t : TA} {apos pos : Pos} {pl : Sem Bool} (F : MeE X.prog X.w X.K X.mg X.base C m ps k sp) (hr : Room k X.A) (he : PE X o ta) (ha : PA X (e :: es) t)
    (h1 : plainE e = true := by rfl) (h2 : es.all plainE = true := by rfl)
    (ht : eval (.Call (.Attribute o m apos) (e :: es) [] pos) X.env = (do
      let ov ← eval o X.env
      standAt apos.atName
      let (f, first) ← holding [ov] (getMethod ov m pl)
      callWith pos f first (backTo pos (starEach (e :: es) X.env)) (backToKw pos (keywordEach [] X.env))) := by rfl) :
    PE X (.Call (.Attribute o m apos) (e :: es) [] pos) (tMeth C m sp [] E0 ta t) :=
  let ⟨_, _, a, b, c, d⟩ := F.ex; pe_meth (pl := pl) he c b a hr d .nil pass0 ha (star_cons h1) (star_any h2) ht
end L2
namespace My
open PySem L2
theorem head_get {l : List Nat} (h : 0 < l.length) : l[0]? = some (l.getD 0 0) := by
  cases l with
  | nil => cases h
  | cons x l => rfl
section
variable {P : Program} {w : World} {K : PySem.W.Frag} {mg : Str → Option Value} {base : Heap}
abbrev sUn : Stmt := top 35
theorem scUn : FnScope ["_law_thing", "_law_most_here"] ["_law_thing", "_law_most_here"] (defScope sUn) := ⟨rfl, rfl, rfl, by decide +kernel, rfl, by decide +kernel, by decide +kernel⟩
theorem ok_un {f : Addr} {fd : FuncData} (F : Fun K "_law_below" "_law_below" sUn f fd) (T : Bi mg) : FnOk P w K mg base CX0 1 f fd ["_law_thing", "_law_most_here"] spBel := by
  refine F.ok scUn (fun vs H Q E h => ?_) (fun cdv A outer s H vs Q E hr h => ?_)
  · obtain ⟨x, n, rfl, _⟩ := h
    rfl
  · obtain ⟨i, n, rfl, h0, h1, q⟩ := h
    refine ⟨_, pss_one (ps_ret (pe_and (pe_callB call_isinst rfl T.isi bIsi (pa_c (pv 0) (pa_c (pe_bltn (v := .ty "int") rfl T.int bInt rfl) pa_nil)))
      (pe_and (pe_not (pe_callB call_isinst rfl T.isi bIsi (pa_c (pv 0) (pa_c (pe_bltn (v := .ty "bool") rfl T.bool bBool rfl) pa_nil)))) (pe_one (pe_chain op_le op_lt pe_int (pv 0) (pv 1)))))), ?_⟩
    refine ⟨_, rfl, _, _, _, _, rfl, .int i, kit K "int" "int" true (by decide +kernel), _, rfl, iteT ⟨_, rfl, _, _, _, _, rfl, .int i, kit K "int" "bool" false (by decide +kernel), _, rfl, _, rfl, ?_⟩⟩
    refine iteT ⟨_, rfl, _, _, rfl, rfl, _, rfl, ?_⟩
    refine ite2 (fun z => ?_) (fun z => absurd (decide_eq_true h0) z)
    refine ⟨_, rfl, _, _, rfl, rfl, ?_⟩
    show Q (.bl (decide (i < n))) H
    rw [decide_eq_true h1]
    exact q
end
end My
set_option Elab.async false
set_option linter.all false
set_option maxRecDepth 100000
set_option maxHeartbeats 4000000
namespace L2
open PySem PySem.Spec PyProof.Rows
theorem for_enum {K : PySem.W.Frag} {a : Addr} {xs : List V} {g : TG} {tb : TS} {D : Ends} {σ : St} {H : Hp} (Pv : Nat → St → Hp → Prop) (h0 : Pv 0 σ H) (hl : ∀ i σ H, i ≤ xs.length → Pv i σ H → SqT K H a xs)
    (hs : ∀ i x σ H, xs[i]? = some x → Pv i σ H → ∀ T H1, Same H H1 → H1 T = some (.tup [.int i, x]) → g (.ref T) σ H1 fun σ2 H2 => tb { D with nx := Pv (i + 1), ct := Pv (i + 1), bk := D.nx } σ2 H2) (hd : ∀ σ H, Pv xs.length σ H → D.nx σ H) :
    ∃ W : Nat → Nat → St → Hp → Prop, (∃ m, W 0 m σ H) ∧ ∀ i m σ H, W i m σ H →
      ((Ite K a).stop i H ∧ D.nx σ H) ∨ ((Ite K a).go i H ∧ ∃ N : St → Hp → Prop, (∀ σ' H', N σ' H' → ∃ m', m' < m ∧ W (i + 1) m' σ' H') ∧ ∀ x H', (Ite K a).yld i H x H' → g x σ H' fun σ2 H2 => tb { D with nx := N, ct := N, bk := D.nx } σ2 H2) := by
  refine ⟨fun i m σ H => m = xs.length - i ∧ i ≤ xs.length ∧ Pv i σ H, ⟨xs.length, by simp, Nat.zero_le _, h0⟩, ?_⟩
  rintro i m σ H ⟨rfl, hi, p⟩
  have q1 := hl i σ H hi p
  by_cases hlt : i < xs.length
  · refine .inr ⟨⟨xs, xs[i], q1, by simp [hlt]⟩, Pv (i + 1), fun σ' H' p' => ⟨xs.length - (i + 1), by omega, rfl, hlt, p'⟩, fun x H' y => ?_⟩
    obtain ⟨T, u, rfl, hT, rfl, hu⟩ := y
    exact hs i u σ H (hu xs q1) p T _ (same_add hT) upd_same
  · have e : i = xs.length := by omega
    subst e
    exact .inl ⟨⟨xs, q1, Nat.le_refl _⟩, hd σ H p⟩
end L2
namespace My
open PySem L2
theorem bSorted : bootBuiltins "sorted" = some (.builtin "sorted") := by decide +kernel
def oth (e : Nat × Nat) (x : Nat) : Nat := if e.1 = x then e.2 else e.1
theorem oth_at (e : Nat × Nat) (x : Nat) : At e (oth e x) := by unfold oth At; split <;> simp
theorem at_oth {e : Nat × Nat} {x y : Nat} (hx : At e x) (hy : At e y) : y = x ∨ y = oth e x := by
  unfold At at hx hy
  unfold oth
  split <;> omega
abbrev kN (x : Nat) : Key := Sum.inl (x : Int)
theorem kN_inj {x y : Nat} (h : kN x = kN y) : x = y := by have := Sum.inl.inj h; omega
section
variable {P : Program} {w : World} {K : PySem.W.Frag} {mg : Str → Option Value} {base : Heap}
abbrev sAc : Stmt := top 4
def spAc : Sp := fun vs H Q _ => ∃ (p : Addr) (n : Nat) (q : Addr) (ts : List V) (es : List (Nat × Nat)) (k x : Nat), vs = [.ref p, .int (k : Int), .int (x : Int)] ∧ NetZ H p n q ts es ∧ k < es.length ∧ Q (.int (oth (es.getD k (0, 0)) x : Int)) H
theorem scAc : FnScope ["net", "tie", "point", "ends"] ["net", "tie", "point"] (defScope sAc) := ⟨rfl, rfl, rfl, by decide +kernel, rfl, by decide +kernel, by decide +kernel⟩
theorem ok_ac {f : Addr} {fd : FuncData} (F : Fun K "across" "across" sAc f fd) : FnOk P w K mg base CX0 1 f fd ["net", "tie", "point"] spAc := by
  refine F.ok scAc (fun vs H Q E h => ?_) (fun cdv A outer s H vs Q E hr h => ?_)
  · obtain ⟨p, n, q, ts, es, k, x, rfl, _⟩ := h
    rfl
  · obtain ⟨p, n, qa, ts, es, k, x, rfl, N, hk, q⟩ := h
    refine ⟨_, pss_cons (ps_set (i := 3) scAc.nd rfl (Or.inl rfl) (pe_ix ix_tup (pe_ix ix_tup (pv 0) pe_int (fun _ _ => rfl)) (pv 1) (fun _ _ => rfl)))
      (pss_one (ps_ret (pe_ifExp (pt_cmpR op_eq (pe_ix ix_tup (pv 3) pe_int (fun _ _ => rfl)) (pv 2) (nomark _)) (pe_ix ix_tup (pv 3) pe_int (fun _ _ => rfl)) (pe_ix ix_tup (pv 3) pe_int (fun _ _ => rfl))))), ?_⟩
    obtain ⟨a, ha, hta⟩ := N.at' hk
    refine ⟨_, rfl, p, _, _, _, rfl, rfl, SqT.of N.e1, rfl, _, rfl, qa, _, _, _, rfl, rfl, SqT.of N.e2, atI_nat ha, ?_⟩
    refine ⟨_, rfl, a, _, _, _, rfl, rfl, SqT.of hta, rfl, _, rfl, rfl, _, rfl, ?_⟩
    unfold oth at q
    refine ite2 (fun hz => ?_) (fun hz => ?_)
    · have e : (es.getD k (0, 0)).1 = x := by have := V.int.inj (of_decide_eq_true hz); omega
      rw [if_pos e] at q
      exact ⟨_, rfl, a, _, _, _, rfl, rfl, SqT.of hta, rfl, q⟩
    · have e : ¬ (es.getD k (0, 0)).1 = x := fun z => hz (decide_eq_true (by rw [z]))
      rw [if_neg e] at q
      exact ⟨_, rfl, a, _, _, _, rfl, rfl, SqT.of hta, rfl, q⟩
end
structure Rows (H0 H : Hp) (d : Addr) (kvs : List (Key × V)) (R : Nat → Nat → Prop) (b : Nat) : Prop where
  dd : H d = some (.dK kvs)
  dn : H0 d = none
  s : Same H0 H
  len : kvs.length ≤ b
  row : ∀ x v, valV kvs (kN x) = some v → ∃ l ks, v = .ref l ∧ H0 l = none ∧ H l = some (.lst (nl ks)) ∧ (∀ k, k ∈ ks ↔ R k x) ∧ ks.length ≤ b
  no : ∀ x, valV kvs (kN x) = none → ∀ k, ¬ R k x
  inj : ∀ x y l, valV kvs (kN x) = some (.ref l) → valV kvs (kN y) = some (.ref l) → x = y
theorem Rows.iff {H0 H : Hp} {d : Addr} {kvs : List (Key × V)} {R S : Nat → Nat → Prop} {b : Nat} (h : Rows H0 H d kvs R b) (e : ∀ k x, R k x ↔ S k x) : Rows H0 H d kvs S b :=
  { h with row := fun x v hv => let ⟨l, ks, a1, a2, a3, a4, a5⟩ := h.row x v hv; ⟨l, ks, a1, a2, a3, fun k => (a4 k).trans (e k x), a5⟩, no := fun x hx k => fun z => h.no x hx k ((e k x).mpr z) }
theorem Rows.same {H0 H H' : Hp} {d : Addr} {kvs : List (Key × V)} {R : Nat → Nat → Prop} {b : Nat} (h : Rows H0 H d kvs R b) (s : Same H H') : Rows H0 H' d kvs R b :=
  { h with dd := s _ _ h.dd, s := Same.trans h.s s, row := fun x v hv => let ⟨l, ks, a1, a2, a3, a4, a5⟩ := h.row x v hv; ⟨l, ks, a1, a2, s _ _ a3, a4, a5⟩ }
theorem Rows.mono {H0 H : Hp} {d : Addr} {kvs : List (Key × V)} {R : Nat → Nat → Prop} {b c : Nat} (h : Rows H0 H d kvs R b) (hb : b ≤ c) : Rows H0 H d kvs R c :=
  { h with len := Nat.le_trans h.len hb, row := fun x v hv => let ⟨l, ks, a1, a2, a3, a4, a5⟩ := h.row x v hv; ⟨l, ks, a1, a2, a3, a4, Nat.le_trans a5 hb⟩ }
theorem Rows.add {H0 H : Hp} {d l : Addr} {kvs : List (Key × V)} {R : Nat → Nat → Prop} {b x t : Nat} {ks : List Nat} (h : Rows H0 H d kvs R b) (hv : valV kvs (kN x) = some (.ref l)) (hl : H l = some (.lst (nl ks))) (hk : ∀ k, k ∈ ks ↔ R k x) (hb : ks.length ≤ b) (hn : H0 l = none) :
    Rows H0 (upd H l (.lst (nl (ks ++ [t])))) d kvs (fun k y => R k y ∨ (k = t ∧ y = x)) (b + 1) := by
  have hdl : d ≠ l := fun z => by rw [← z, h.dd] at hl; cases hl
  refine ⟨by rw [upd_ne hdl]; exact h.dd, h.dn, h.s.wr hn, by have := h.len; omega, fun y v hy => ?_, fun y hy k z => ?_, h.inj⟩
  · obtain ⟨l2, ks2, rfl, a2, a3, a4, a5⟩ := h.row y v hy
    by_cases e : y = x
    · subst e
      rw [hv] at hy
      cases hy
      refine ⟨l, ks ++ [t], rfl, hn, upd_same, fun k => ?_, by rw [List.length_append, List.length_singleton]; omega⟩
      rw [List.mem_append, List.mem_singleton, hk k]
      exact ⟨fun z => z.imp id fun z => ⟨z, rfl⟩, fun z => z.imp id fun z => z.1⟩
    · have hne : l2 ≠ l := fun z => e (h.inj y x l (by rw [← z]; exact hy) hv)
      refine ⟨l2, ks2, rfl, a2, by rw [upd_ne hne]; exact a3, fun k => ?_, by omega⟩
      rw [a4 k]
      exact ⟨.inl, fun z => z.elim id fun z => absurd z.2 e⟩
  · rcases z with z | ⟨_, z⟩
    · exact h.no y hy k z
    · rw [z, hv] at hy; cases hy
theorem Rows.new {H0 H : Hp} {d l : Addr} {kvs : List (Key × V)} {R : Nat → Nat → Prop} {b x : Nat} (h : Rows H0 H d kvs R b) (hx : valV kvs (kN x) = none) (hl : H l = some (.lst (nl []))) (hn : H0 l = none) (hnew : ∀ y, valV kvs (kN y) ≠ some (.ref l)) : Rows H0 (upd H d (.dK (putK kvs (kN x) (.ref l)))) d (putK kvs (kN x) (.ref l)) R (b + 1) := by
  have hdl : l ≠ d := fun z => by rw [z, h.dd] at hl; cases hl
  have lk := length_putK kvs (kN x) (V.ref l)
  refine ⟨upd_same, h.dn, h.s.wr h.dn, by have := h.len; omega, fun y v hy => ?_, fun y hy k => ?_, fun y z m hy hz => ?_⟩
  · rw [valV_put] at hy
    by_cases e : kN y = kN x
    · rw [if_pos e] at hy
      cases hy
      have := kN_inj e
      subst this
      exact ⟨l, [], rfl, hn, by rw [upd_ne hdl]; exact hl, fun k => ⟨fun z => (by cases z), fun z => absurd z (h.no y hx k)⟩, Nat.zero_le _⟩
    · rw [if_neg e] at hy
      obtain ⟨l2, ks2, a1, a2, a3, a4, a5⟩ := h.row y v hy
      have hne : l2 ≠ d := fun z => by rw [z, h.dd] at a3; cases a3
      exact ⟨l2, ks2, a1, a2, by rw [upd_ne hne]; exact a3, a4, by omega⟩
  · rw [valV_put] at hy
    by_cases e : kN y = kN x
    · rw [if_pos e] at hy; cases hy
    · rw [if_neg e] at hy; exact h.no y hy k
  · rw [valV_put] at hy hz
    by_cases e : kN y = kN x
    · by_cases e2 : kN z = kN x
      · exact (kN_inj e).trans (kN_inj e2).symm
      · rw [if_pos e] at hy
        rw [if_neg e2] at hz
        cases hy
        exact absurd hz (hnew z)
    · by_cases e2 : kN z = kN x
      · rw [if_neg e] at hy
        rw [if_pos e2] at hz
        cases hz
        exact absurd hy (hnew y)
      · rw [if_neg e] at hy
        rw [if_neg e2] at hz
        exact h.inj y z m hy hz
end My
namespace My
open PySem L2
def Rel (es : List (Nat × Nat)) (tl : List (Option Nat)) (u v i k x : Nat) : Prop := k < i ∧ InP tl u v k ∧ At (es.getD k (0, 0)) x
theorem Rel.skip {es : List (Nat × Nat)} {tl : List (Option Nat)} {u v i : Nat} (h : ¬ InP tl u v i) (k x : Nat) : Rel es tl u v i k x ↔ Rel es tl u v (i + 1) k x := by
  constructor
  · rintro ⟨a, b, c⟩; exact ⟨by omega, b, c⟩
  · rintro ⟨a, b, c⟩
    by_cases e : k = i
    · subst e; exact absurd b h
    · exact ⟨by omega, b, c⟩
theorem Rel.take {es : List (Nat × Nat)} {tl : List (Option Nat)} {u v i : Nat} (h : InP tl u v i) (k x : Nat) : ((Rel es tl u v i k x ∨ (k = i ∧ x = (es.getD i (0, 0)).1)) ∨ (k = i ∧ x = (es.getD i (0, 0)).2)) ↔ Rel es tl u v (i + 1) k x := by
  constructor
  · rintro ((⟨a, b, c⟩ | ⟨rfl, rfl⟩) | ⟨rfl, rfl⟩)
    · exact ⟨by omega, b, c⟩
    · exact ⟨by omega, h, .inl rfl⟩
    · exact ⟨by omega, h, .inr rfl⟩
  · rintro ⟨a, b, c⟩
    by_cases e : k = i
    · subst e
      rcases c with rfl | rfl
      · exact .inl (.inr ⟨rfl, rfl⟩)
      · exact .inr ⟨rfl, rfl⟩
    · exact .inl (.inl ⟨by omega, b, c⟩)
def RJ (es : List (Nat × Nat)) (tl : List (Option Nat)) (u v i : Nat) : Nat → Nat → Nat → Prop
  | 0 => Rel es tl u v i
  | 1 => fun k x => Rel es tl u v i k x ∨ (k = i ∧ x = (es.getD i (0, 0)).1)
  | _ => fun k x => (Rel es tl u v i k x ∨ (k = i ∧ x = (es.getD i (0, 0)).1)) ∨ (k = i ∧ x = (es.getD i (0, 0)).2)
section
variable {P : Program} {w : World} {K : PySem.W.Frag} {mg : Str → Option Value} {base : Heap}
abbrev sTt : Stmt := top 7
abbrev nTt : List Str := ["net", "tints", "one", "other", "found", "tie", "tint", "point"]
def spTt : Sp := fun vs H Q _ => ∃ (p r : Addr) (n : Nat) (q : Addr) (ts : List V) (es : List (Nat × Nat)) (tl : List (Option Nat)) (u v : Nat), vs = [.ref p, .ref r, .int (u : Int), .int (v : Int)] ∧ NetZ H p n q ts es ∧ H r = some (.tup (tv tl)) ∧ tl.length = es.length ∧
  ∀ H' d kvs, Rows H H' d kvs (Rel es tl u v es.length) 1000 → Q (.ref d) H'
theorem scTt : FnScope nTt ["net", "tints", "one", "other"] (defScope sTt) := ⟨rfl, rfl, rfl, by decide +kernel, rfl, by decide +kernel, by decide +kernel⟩
theorem ok_tt {f : Addr} {fd : FuncData} (F : Fun K "two_tinted" "two_tinted" sTt f fd) (T : Bi mg) (hen : mg "enumerate" = none) : FnOk P w K mg base CX0 1 f fd ["net", "tints", "one", "other"] spTt := by
  refine F.ok scTt (fun vs H Q E h => ?_) (fun cdv A outer s H vs Q E hr h => ?_)
  · obtain ⟨p, r, n, q, ts, es, tl, u, v, rfl, _⟩ := h
    rfl
  · obtain ⟨p, r, n, qa, ts, es, tl, u, v, rfl, N, hR, htl, q⟩ := h
    refine ⟨_, pss_cons (ps_set (i := 4) scTt.nd rfl (Or.inl rfl) pe_dnewK)
      (pss_cons (ps_for PassesOwn.never rfl (pi_enum rfl hen (pa_c (pv 1) pa_nil) rfl) (pg_tup rfl (pgs_cons (pg_name (i := 5) scTt.nd rfl (Or.inl rfl)) (pgs_cons (pg_name (i := 6) scTt.nd rfl (Or.inl rfl)) pgs_nil)))
        (pss_one (ps_if (PW.pt (pw_or (pt_cmpR op_eq (pv 6) (pv 2) (nomark _)) (pw_or1 (pt_cmpR op_eq (pv 6) (pv 3) (nomark _)))))
          (pss_one (ps_for PassesOwn.never rfl (pi_tup (pe_ix ix_tup (pe_ix ix_tup (pv 0) pe_int (fun _ _ => rfl)) (pv 5) (fun _ _ => rfl))) (pg_name (i := 7) scTt.nd rfl (Or.inl rfl))
            (pss_one (ps_expr (pe_bm PySem.F.plainAttrs_list PySem.F.slot_list_append PySem.F.type_list_append mt_append (pe_dsetd (pv 4) (pv 7) (pe_lst pa_nil) ⟨rfl, rfl, rfl, rfl⟩) (pa_c (pv 5) pa_nil)))))) pss_nil)))
      (pss_one (ps_ret (pv 4)))), ?_⟩
    have h200 := N.l200
    have hlen := N.len
    intro d hd
    have R0 : Rows H (upd H d (.dK [])) d [] (Rel es tl u v 0) 0 := ⟨upd_same, hd, same_new hd, Nat.le_refl _, (fun x v z => by cases z), fun x _ k z => absurd z.1 (Nat.not_lt_zero _), fun x y l z => by cases z⟩
    have step : ∀ (G : Hp) (kvs : List (Key × V)) (R : Nat → Nat → Prop) (b i x : Nat) (w6 : Option V) (Qp : VK), b ≤ 900 → Rows H G d kvs R b →
        (∀ v G' kvs', Rows H G' d kvs' (fun k y => R k y ∨ (k = i ∧ y = x)) (b + 2) → Qp v G') →
        tBM K "list" rAppend (tDSetD (tVar 4) (tVar 7) (tLst tNil)) (tCons (tVar 5) tNil) [some (.ref p), some (.ref r), some (.int (u : Int)), some (.int (v : Int)), some (.ref d), some (.int (i : Int)), w6, some (.int (x : Int))] G Qp := by
      intro G kvs R b i x w6 Qp hb RR fin
      refine ⟨_, rfl, d, rfl, .inl ⟨kvs, .inl RR.dd⟩, _, rfl, Nat.zero_le _, fun l hl => ⟨kvs, kN x, same_new hl _ _ RR.dd, rfl, by have := RR.len; omega, fun y hy => ?_, fun hn => ?_⟩⟩
      · have RR1 := RR.same (same_new (o := .lst []) hl)
        obtain ⟨l2, ks, rfl, a2, a3, a4, a5⟩ := RR1.row x y hy
        refine ⟨.inl ⟨rfl, _, SqL.of a3⟩, _, rfl, l2, _, _, rfl, rfl, a3, (by rw [nl_len, sizeLine_eq]; omega), fin _ _ kvs ?_⟩
        rw [nl_app]
        exact (RR1.add hy a3 a4 a5 a2).mono (by omega)
      · have RR1 := RR.same (same_new (o := .lst []) hl)
        have hl0 : H l = none := RR.s.none hl
        have RR2 := RR1.new (l := l) hn upd_same hl0 fun y z => by
          obtain ⟨l2, ks, e1, a2, a3, _⟩ := RR.row y _ z
          cases e1
          rw [a3] at hl
          cases hl
        have hdl : l ≠ d := fun z => by rw [z, RR.dd] at hl; cases hl
        have hL : (upd (upd G l (.lst [])) d (.dK (putK kvs (kN x) (.ref l)))) l = some (.lst (nl [])) := by rw [upd_ne hdl, upd_same]; rfl
        refine ⟨.inl ⟨rfl, _, SqL.of hL⟩, _, rfl, l, _, _, rfl, rfl, hL, (by rw [nl_len, sizeLine_eq]; exact Nat.lt_of_lt_of_le (by decide) (Nat.le_refl _)), fin _ _ (putK kvs (kN x) (.ref l)) ?_⟩
        rw [nl_app]
        exact RR2.add (by rw [valV_put, if_pos rfl]) hL (fun k => ⟨fun z => (by cases z), fun z => absurd z (RR.no x hn k)⟩) (Nat.zero_le _) hl0
    refine ⟨_, rfl, r, rfl, ⟨_, SqT.of (R0.s _ _ hR)⟩, for_enum (K := K) (a := r) (xs := tv tl) (fun i σ H' => ∃ kvs v5 v6 v7, σ = [some (.ref p), some (.ref r), some (.int (u : Int)), some (.int (v : Int)), some (.ref d), v5, v6, v7] ∧ Rows H H' d kvs (Rel es tl u v i) (4 * i)) ⟨[], _, _, _, rfl, R0⟩ (fun i σ H' _ ⟨kvs, _, _, _, _, RR⟩ => SqT.of (RR.s _ _ hR)) (fun i x σ H' hx ⟨kvs, v5, v6, v7, e, RR⟩ TT H1 s1 hTT => ?_) (fun σ H' ⟨kvs, v5, v6, v7, e, RR⟩ => ?_)⟩
    · subst e
      obtain ⟨o, ho, rfl⟩ := tv_inv hx
      have hit : i < tl.length := (List.getElem?_eq_some_iff.mp ho).1
      have hie : i < es.length := by omega
      obtain ⟨a, ha, hta⟩ := N.at' hie
      have RR1 := RR.same s1
      refine ⟨TT, _, rfl, SqT.of hTT, rfl, _, _, rfl, _, _, rfl, rfl, ?_⟩
      have inner : ∀ (t : Nat) (Dn : Ends), InP tl u v i → (∀ G kvs v7, Rows H G d kvs (Rel es tl u v (i + 1)) (4 * (i + 1)) → Dn.nx [some (.ref p), some (.ref r), some (.int (u : Int)), some (.int (v : Int)), some (.ref d), some (.int (i : Int)), some (.int (t : Int)), v7] G) →
          tFor (iTup K (tOp (rIxT K) (tOp (rIxT K) (tVar 0) (tC (.int 1))) (tVar 5))) (gName 7) (fun D σ H => tBM K "list" rAppend (tDSetD (tVar 4) (tVar 7) (tLst tNil)) (tCons (tVar 5) tNil) σ H fun _ H' => D.nx σ H') Dn [some (.ref p), some (.ref r), some (.int (u : Int)), some (.int (v : Int)), some (.ref d), some (.int (i : Int)), some (.int (t : Int)), v7] H1 := by
        intro t Dn hin fin
        refine ⟨_, rfl, p, _, _, _, rfl, rfl, SqT.of (RR1.s _ _ N.e1), rfl, _, rfl, qa, _, _, _, rfl, rfl, SqT.of (RR1.s _ _ N.e2), atI_nat ha, a, rfl, ⟨_, SqT.of (RR1.s _ _ hta)⟩, for_tup (K := K) (a := a) (xs := [.int ((es.getD i (0, 0)).1 : Int), .int ((es.getD i (0, 0)).2 : Int)]) (g := gName 7) (tb := fun D σ H => tBM K "list" rAppend (tDSetD (tVar 4) (tVar 7) (tLst tNil)) (tCons (tVar 5) tNil) σ H fun _ H' => D.nx σ H') (D := Dn)
          (fun j σ G => ∃ kvs' w7, σ = [some (.ref p), some (.ref r), some (.int (u : Int)), some (.int (v : Int)), some (.ref d), some (.int (i : Int)), some (.int (t : Int)), w7] ∧ Rows H G d kvs' (RJ es tl u v i j) (4 * i + 2 * j))
          ⟨kvs, _, rfl, RR1⟩ (fun j σ G _ ⟨_, _, _, RG⟩ => SqT.of (RG.s _ _ hta)) (fun j x σ G hx' ⟨kvs', w7, e, RG⟩ => ?_) (fun σ G ⟨kvs', w7, e, RG⟩ => ?_)⟩
        · subst e
          match j, hx' with
          | 0, hx' =>
            cases hx'
            exact step G kvs' _ (4 * i + 2 * 0) i _ _ _ (by omega) RG fun _ G' kvs2 R2 => ⟨kvs2, _, rfl, R2⟩
          | 1, hx' =>
            cases hx'
            exact step G kvs' _ (4 * i + 2 * 1) i _ _ _ (by omega) RG fun _ G' kvs2 R2 => ⟨kvs2, _, rfl, R2⟩
        · subst e
          exact fin G kvs' _ ((RG.iff fun k x => Rel.take hin k x).mono (by show 4 * i + 2 * 2 ≤ 4 * (i + 1); omega))
      cases o with
      | none =>
        have hnot : ¬ InP tl u v i := fun z => by rcases z with z | z <;> rw [ho] at z <;> cases z
        refine ⟨_, rfl, _, rfl, rfl, _, rfl, iteF ?_⟩
        refine ⟨_, rfl, _, rfl, rfl, _, rfl, iteF ?_⟩
        exact ⟨kvs, _, _, _, rfl, (RR1.iff (Rel.skip hnot)).mono (by omega)⟩
      | some t =>
        refine ⟨_, rfl, _, rfl, rfl, _, rfl, ?_⟩
        refine ite2 (fun hz => ?_) (fun hz => ?_)
        · have e : t = u := by have := V.int.inj (of_decide_eq_true hz); omega
          subst e
          exact iteT (inner t _ (.inl ho) fun G kvs2 w7 R2 => ⟨kvs2, _, _, _, rfl, R2⟩)
        · have ne1 : t ≠ u := fun z => hz (decide_eq_true (by subst z; rfl))
          refine ⟨_, rfl, _, rfl, rfl, _, rfl, ?_⟩
          refine ite2 (fun hz2 => ?_) (fun hz2 => ?_)
          · have e : t = v := by have := V.int.inj (of_decide_eq_true hz2); omega
            subst e
            exact inner t _ (.inr ho) fun G kvs2 w7 R2 => ⟨kvs2, _, _, _, rfl, R2⟩
          · have ne2 : t ≠ v := fun z => hz2 (decide_eq_true (by subst z; rfl))
            have hnot : ¬ InP tl u v i := fun z => by
              rcases z with z | z <;> rw [ho] at z <;> have := Option.some.inj (Option.some.inj z)
              · exact ne1 this
              · exact ne2 this
            exact ⟨kvs, _, _, _, rfl, (RR1.iff (Rel.skip hnot)).mono (by omega)⟩
    · subst e
      rw [tv_len, htl] at RR
      exact ⟨_, rfl, q H' d kvs (RR.mono (by omega))⟩
end
end My
namespace My
open PySem L2
theorem Walk.init {es : List (Nat × Nat)} {tl : List (Option Nat)} {u v p : Nat} : Walk es tl u v p (· ∈ ([] : List Nat)) (fun _ => False) (· ∈ [p]) :=
  ⟨(fun k h => by cases h), (fun x h => by rw [List.mem_singleton.mp h]; exact .start), (fun x h => h.elim), (fun k h => by cases h), .inr (List.mem_singleton.mpr rfl)⟩
theorem Walk.pop {es : List (Nat × Nat)} {tl : List (Option Nat)} {u v p x : Nat} {F V : Nat → Prop} {w' : List Nat} (h : Walk es tl u v p F V (· ∈ w' ++ [x])) : Walk es tl u v p F V (fun y => y ∈ w' ∨ y = x) := by
  have e : ∀ y, y ∈ w' ++ [x] ↔ (y ∈ w' ∨ y = x) := fun y => by rw [List.mem_append, List.mem_singleton]
  exact ⟨h.rt, fun y hy => h.rw y ((e y).mpr hy), h.cl, fun k hk y hy => (h.en k hk y hy).imp id (e y).mp, h.st.imp id (e p).mp⟩
theorem Walk.add {es : List (Nat × Nat)} {tl : List (Option Nat)} {u v p x k : Nat} {fk wl : List Nat} {V : Nat → Prop} (h : Walk es tl u v p (· ∈ fk) V (fun y => y ∈ wl ∨ y = x)) (hk : k < es.length) (hi : InP tl u v k) (hx : At (es.getD k (0, 0)) x) :
    Walk es tl u v p (· ∈ fk ++ [k]) V (fun y => y ∈ wl ++ [oth (es.getD k (0, 0)) x] ∨ y = x) := by
  have rx := h.rw x (.inr rfl)
  have rt : RT es tl u v p k := ⟨hk, hi, x, rx, hx⟩
  refine ⟨fun j hj => ?_, fun y hy => ?_, fun y hy j h1 h2 h3 => List.mem_append_left _ (h.cl y hy j h1 h2 h3), fun j hj y hy => ?_, h.st.imp id fun z => z.imp (List.mem_append_left _) id⟩
  · rcases List.mem_append.mp hj with z | z
    · exact h.rt j z
    · rw [List.mem_singleton.mp z]; exact rt
  · rcases hy with hy | hy
    · rcases List.mem_append.mp hy with z | z
      · exact h.rw y (.inl z)
      · rw [List.mem_singleton.mp z]; exact rt.end (oth_at _ _)
    · exact h.rw y (.inr hy)
  · rcases List.mem_append.mp hj with z | z
    · exact (h.en j z y hy).imp id fun z => z.imp (List.mem_append_left _) id
    · rw [List.mem_singleton.mp z] at hy
      rcases at_oth hx hy with e | e
      · exact .inr (.inr e)
      · exact .inr (.inl (List.mem_append_right _ (List.mem_singleton.mpr e)))
theorem Walk.close {es : List (Nat × Nat)} {tl : List (Option Nat)} {u v p x : Nat} {F V : Nat → Prop} {wl : List Nat} (h : Walk es tl u v p F V (fun y => y ∈ wl ∨ y = x)) (hx : ∀ k, k < es.length → InP tl u v k → At (es.getD k (0, 0)) x → F k) :
    Walk es tl u v p F (fun y => V y ∨ y = x) (· ∈ wl) := by
  refine ⟨h.rt, fun y hy => h.rw y (.inl hy), fun y hy k h1 h2 h3 => ?_, fun k hk y hy => ?_, ?_⟩
  · rcases hy with hy | rfl
    · exact h.cl y hy k h1 h2 h3
    · exact hx k h1 h2 h3
  · rcases h.en k hk y hy with z | z | z
    · exact .inl (.inl z)
    · exact .inr z
    · exact .inl (.inr z)
  · rcases h.st with z | z | z
    · exact .inl (.inl z)
    · exact .inr z
    · exact .inl (.inr z)
theorem vin {kf : List (Key × V)} {fk : List Nat} (h : kf.map (·.1) = fk.map kN) (k : Nat) : (valV kf (kN k)).isSome = true ↔ k ∈ fk := by
  rw [← valV_any, List.any_eq_true]
  constructor
  · rintro ⟨kv, hkv, e⟩
    have e' : kv.1 = kN k := of_decide_eq_true e
    have : kv.1 ∈ fk.map kN := by rw [← h]; exact List.mem_map_of_mem hkv
    obtain ⟨j, hj, ej⟩ := List.mem_map.mp this
    rw [e'] at ej
    rw [← kN_inj ej]
    exact hj
  · intro hk
    have : kN k ∈ kf.map (·.1) := by rw [h]; exact List.mem_map_of_mem hk
    obtain ⟨kv, hkv, e⟩ := List.mem_map.mp this
    exact ⟨kv, hkv, decide_eq_true e⟩
theorem len_lt {l : List Nat} {n : Nat} (nd : l.Nodup) (h : ∀ x ∈ l, x < n) : l.length ≤ n := by
  have key : ∀ (n : Nat) (l : List Nat), l.Nodup → (∀ x ∈ l, x < n) → l.length ≤ n := by
    intro n
    induction n with
    | zero => intro l _ h; cases l with | nil => exact Nat.le_refl _ | cons x l => exact absurd (h x (.head _)) (Nat.not_lt_zero _)
    | succ n ih =>
      intro l nd h
      have h1 := ih (l.erase n) (nd.erase n) fun x hx => by
        have := (List.Nodup.mem_erase_iff nd).mp hx
        have := h x this.2
        omega
      by_cases hm : n ∈ l
      · rw [List.length_erase_of_mem hm] at h1; omega
      · rw [List.erase_of_not_mem hm] at h1; omega
  exact key n l nd h
structure ChSt (Ht G : Hp) (fo wa : Addr) (m : Nat) (fk wl : List Nat) : Prop where
  s : Same Ht G
  w : G wa = some (.lst (nl wl))
  f : ∃ kf : List (Key × V), G fo = some (.dK kf) ∧ kf.map (·.1) = fk.map kN
  nd : fk.Nodup
  lt : ∀ k ∈ fk, k < m
  bd : 2 * (m - fk.length) + wl.length ≤ 2 * m + 1
section
variable {P : Program} {w : World} {K : PySem.W.Frag} {mg : Str → Option Value} {base : Heap}
abbrev sCh : Stmt := top 8
abbrev nCh : List Str := ["net", "tints", "point", "one", "other", "ties", "found", "waiting", "here", "tie"]
def spCh : Sp := fun vs H Q _ => ∃ (p r : Addr) (n : Nat) (q : Addr) (ts : List V) (es : List (Nat × Nat)) (tl : List (Option Nat)) (pt u v : Nat), vs = [.ref p, .ref r, .int (pt : Int), .int (u : Int), .int (v : Int)] ∧ NetZ H p n q ts es ∧ H r = some (.tup (tv tl)) ∧ tl.length = es.length ∧ es.length < 64 ∧
  ∀ H' t S, Same H H' → H' t = some (.tup (nl S)) → S.Pairwise (· < ·) → (∀ k, k ∈ S ↔ RT es tl u v pt k) → Q (.ref t) H'
theorem scCh : FnScope nCh ["net", "tints", "point", "one", "other"] (defScope sCh) := ⟨rfl, rfl, rfl, by decide +kernel, rfl, by decide +kernel, by decide +kernel⟩
theorem ok_ch {f : Addr} {fd : FuncData} (F : Fun K "chain" "chain" sCh f fd) (T : Bi mg) (hso : mg "sorted" = none) (FT : FnE P w K mg base "two_tinted" ["net", "tints", "one", "other"] 1 spTt) (FA : FnE P w K mg base "across" ["net", "tie", "point"] 1 spAc) : FnOk P w K mg base CX0 2 f fd ["net", "tints", "point", "one", "other"] spCh := by
  refine F.ok scCh (fun vs H Q E h => ?_) (fun cdv A outer s H vs Q E hr h => ?_)
  · obtain ⟨p, r, n, q, ts, es, tl, pt, u, v, rfl, _⟩ := h
    rfl
  · obtain ⟨p, r, n, qa, ts, es, tl, pt, u, v, rfl, N, hR, htl, h64, q⟩ := h
    have hu := hu_of hr
    refine ⟨_, pss_cons (ps_set (i := 5) scCh.nd rfl (Or.inl rfl) (pe_fc FT hr (pa_c (pv 0) (pa_c (pv 1) (pa_c (pv 3) (pa_c (pv 4) pa_nil))))))
      (pss_cons (ps_set (i := 6) scCh.nd rfl (Or.inl rfl) pe_dnewK)
      (pss_cons (ps_set (i := 7) scCh.nd rfl (Or.inl rfl) (pe_lst (pa_c (pv 2) pa_nil)))
      (pss_cons (ps_while PassesOwn.never (pt_truth (pv 7) (fun _ => rfl))
        (pss_cons (ps_set (i := 8) scCh.nd rfl (Or.inl rfl) (pe_bm0 PySem.F.plainAttrs_list PySem.F.slot_list_pop PySem.F.type_list_pop mt_pop (pv 7)))
        (pss_one (ps_for PassesOwn.never rfl (pi_list (pe_dget2 hu (pv 5) (pv 8) (pe_lst pa_nil) ⟨rfl, rfl, rfl, rfl⟩)) (pg_name (i := 9) scCh.nd rfl (Or.inl rfl))
          (pss_one (ps_if (pt_cmp (pc_dnotin hu (pv 9) (pv 6)))
            (pss_cons (ps_dput hu (pv 6) (pv 9) pe_bl rfl)
            (pss_one (ps_expr (pe_bm PySem.F.plainAttrs_list PySem.F.slot_list_append PySem.F.type_list_append mt_append (pv 7) (pa_c (pe_fc FA hr (pa_c (pv 0) (pa_c (pv 9) (pa_c (pv 8) pa_nil)))) pa_nil))))) pss_nil))))))
      (pss_one (ps_ret (pe_callTy call_tuple_ofS rfl T.tuple bTuple (pa_c (pe_callB (call_sortedD hr) rfl hso bSorted (pa_c (pv 6) pa_nil)) pa_nil))))))), ?_⟩
    refine ⟨_, rfl, _, rfl, _, rfl, _, rfl, p, r, n, qa, ts, es, tl, u, v, rfl, N, hR, htl, fun Ht d kvs RW => ?_⟩
    intro fo hfo
    have hwa' : ∀ {wa : Addr}, (upd Ht fo (.dK [])) wa = none → Ht wa = none := fun h => (same_new hfo).none h
    refine ⟨_, rfl, (by show 1 ≤ sizeLine; decide), fun wa hwa => ?_⟩
    have hwt : Ht wa = none := hwa' hwa
    have hfw : fo ≠ wa := fun z => by rw [← z, upd_same] at hwa; cases hwa
    have C0 : ChSt Ht (upd (upd Ht fo (.dK [])) wa (.lst [.int (pt : Int)])) fo wa es.length [] [pt] := ⟨(same_new hfo).wr hwt, by rw [upd_same]; rfl, ⟨[], by rw [upd_ne hfw, upd_same], rfl⟩, List.nodup_nil, (fun k hk => by cases hk), Nat.le_refl _⟩
    refine ⟨fun m σ H' => ∃ fk wl V v8 v9, m = 2 * (es.length - fk.length) + wl.length ∧ σ = [some (.ref p), some (.ref r), some (.int (pt : Int)), some (.int (u : Int)), some (.int (v : Int)), some (.ref d), some (.ref fo), some (.ref wa), v8, v9] ∧ ChSt Ht H' fo wa es.length fk wl ∧ Walk es tl u v pt (· ∈ fk) V (· ∈ wl),
      ⟨_, [], [pt], _, none, none, rfl, rfl, C0, Walk.init⟩, ?_⟩
    rintro m σ H' ⟨fk, wl, VV, v8, v9, rfl, rfl, C, WW⟩
    have hfl : fk.length ≤ es.length := len_lt C.nd C.lt
    refine ⟨_, rfl, _, .inl ⟨_, SqL.of C.w, rfl⟩, ?_⟩
    refine ite2 (fun hz => ?_) (fun hz => ?_)
    · obtain ⟨w', x, rfl⟩ : ∃ w' x, wl = w' ++ [x] := by
        rcases List.eq_nil_or_concat wl with e | ⟨w', x, e⟩
        · subst e; cases hz
        · exact ⟨w', x, by rw [e, List.concat_eq_append]⟩
      have hwl : nl (w' ++ [x]) = nl w' ++ [.int (x : Int)] := (nl_app w' x).symm
      refine ⟨fun σ' H'' => ∃ m', m' < 2 * (es.length - fk.length) + (w' ++ [x]).length ∧ ∃ fk wl V v8 v9, m' = 2 * (es.length - fk.length) + wl.length ∧ σ' = [some (.ref p), some (.ref r), some (.int (pt : Int)), some (.int (u : Int)), some (.int (v : Int)), some (.ref d), some (.ref fo), some (.ref wa), v8, v9] ∧ ChSt Ht H'' fo wa es.length fk wl ∧ Walk es tl u v pt (· ∈ fk) V (· ∈ wl), fun _ _ h => h, ?_⟩
      have hdrop : (nl (w' ++ [x])).dropLast = nl w' := by rw [hwl, List.dropLast_concat]
      refine ⟨_, rfl, .inl ⟨rfl, _, SqL.of C.w⟩, wa, _, .int (x : Int), rfl, rfl, C.w, (by rw [hwl, List.length_append, List.length_singleton, Nat.add_sub_cancel, List.getElem?_append_right (Nat.le_refl _), Nat.sub_self]; rfl), ?_⟩
      rw [hdrop]
      obtain ⟨kf0, hkf0, hkk0⟩ := C.f
      have C1 : ChSt Ht (upd H' wa (.lst (nl w'))) fo wa es.length fk w' := ⟨C.s.wr hwt, upd_same, ⟨kf0, by rw [upd_ne hfw]; exact hkf0, hkk0⟩, C.nd, C.lt, (by have := C.bd; rw [List.length_append] at this; omega)⟩
      have hd1 := C1.s _ _ RW.dd
      refine ⟨_, rfl, d, rfl, .inl ⟨kvs, .inl hd1⟩, _, rfl, Nat.zero_le _, fun l0 hl0 => ⟨_, DGet.k (k := kN x) (same_new hl0 _ _ hd1), ?_⟩⟩
      have s0 : Same (upd H' wa (.lst (nl w'))) (upd (upd H' wa (.lst (nl w'))) l0 (.lst [])) := same_new hl0
      have C2 : ChSt Ht (upd (upd H' wa (.lst (nl w'))) l0 (.lst [])) fo wa es.length fk w' := ⟨Same.trans C1.s s0, s0 _ _ C1.w, (let ⟨kf, a, b⟩ := C1.f; ⟨kf, s0 _ _ a, b⟩), C1.nd, C1.lt, C1.bd⟩
      obtain ⟨la, ks, hval, hla, hks, hlw, hlf⟩ : ∃ la ks, (valV kvs (kN x)).getD (V.ref l0) = .ref la ∧ (upd (upd H' wa (.lst (nl w'))) l0 (.lst [])) la = some (.lst (nl ks)) ∧ (∀ k, k ∈ ks ↔ Rel es tl u v es.length k x) ∧ la ≠ wa ∧ la ≠ fo := by
        cases hv : valV kvs (kN x) with
        | none =>
          refine ⟨l0, [], rfl, upd_same, fun k => ⟨fun z => (by cases z), fun z => absurd z (RW.no x hv k)⟩, fun z => ?_, fun z => ?_⟩
          · rw [z, C1.w] at hl0; cases hl0
          · obtain ⟨kf, a, _⟩ := C1.f
            rw [z, a] at hl0; cases hl0
        | some y =>
          obtain ⟨l2, ks, rfl, _, a3, a4, _⟩ := RW.row x y hv
          exact ⟨l2, ks, rfl, s0 _ _ (C1.s _ _ a3), a4, ne_of_none a3 hwt, ne_of_none a3 hfo⟩
      rw [hval]
      refine ⟨la, rfl, ⟨_, SqL.of hla⟩, for_list (K := K) (a := la) (xs := nl ks) (fun j σ G => ∃ fk' wl' w9, σ = [some (.ref p), some (.ref r), some (.int (pt : Int)), some (.int (u : Int)), some (.int (v : Int)), some (.ref d), some (.ref fo), some (.ref wa), some (.int (x : Int)), w9] ∧ ChSt Ht G fo wa es.length fk' wl' ∧ G la = some (.lst (nl ks)) ∧ Walk es tl u v pt (· ∈ fk') VV (fun y => y ∈ wl' ∨ y = x) ∧ (∀ j' k, j' < j → ks[j']? = some k → k ∈ fk') ∧ 2 * (es.length - fk'.length) + wl'.length ≤ 2 * (es.length - fk.length) + w'.length)
        ⟨fk, w', _, rfl, C2, hla, WW.pop, (fun j' k z => absurd z (Nat.not_lt_zero _)), Nat.le_refl _⟩ (fun j σ G _ ⟨_, _, _, _, _, z, _⟩ => SqL.of z) (fun j y σ G hy ⟨fk', wl', w9, e, CG, gl, WG, hin, hms⟩ => ?_) (fun σ G ⟨fk', wl', w9, e, CG, gl, WG, hin, hms⟩ => ?_)⟩
      · subst e
        obtain ⟨k, hk, rfl⟩ : ∃ k, ks[j]? = some k ∧ y = V.int (k : Int) := by
          unfold nl at hy
          rw [List.getElem?_map] at hy
          cases z : ks[j]? with
          | none => rw [z] at hy; cases hy
          | some k => rw [z] at hy; cases hy; exact ⟨k, rfl, rfl⟩
        obtain ⟨hke, hkp, hkx⟩ := (hks k).mp (List.mem_of_getElem? hk)
        obtain ⟨kf, hkf, hkk⟩ := CG.f
        have hfl' : fk'.length ≤ es.length := len_lt CG.nd CG.lt
        have hkl : kf.length = fk'.length := by have := congrArg List.length hkk; simpa using this
        refine ⟨_, rfl, _, rfl, fo, _, rfl, DGet.k (k := kN k) hkf, _, rfl, ?_⟩
        refine ite2 (fun hz => ?_) (fun hz => ?_)
        · have hno : k ∉ fk' := fun z => by rw [(vin hkk k).mpr z] at hz; cases hz
          have hnone : valV kf (kN k) = none := by
            cases z : valV kf (kN k) with
            | none => rfl
            | some y => rw [z] at hz; cases hz
          have hnd : (fk' ++ [k]).Nodup := by
            rw [List.nodup_append]
            exact ⟨CG.nd, List.nodup_cons.mpr ⟨List.not_mem_nil, List.nodup_nil⟩, fun a ha b hb z => by rw [List.mem_singleton] at hb; subst hb z; exact hno ha⟩
          have hlt : ∀ a ∈ fk' ++ [k], a < es.length := fun a ha => by
            rcases List.mem_append.mp ha with z | z
            · exact CG.lt a z
            · rw [List.mem_singleton.mp z]; exact hke
          have hl3 : (fk' ++ [k]).length ≤ es.length := len_lt hnd hlt
          rw [List.length_append, List.length_singleton] at hl3
          refine ⟨_, rfl, _, rfl, fo, _, rfl, DPut.k (k := kN k) hkf (by rw [sizeLine_eq]; omega), ?_⟩
          have hw3 : (upd G fo (.dK (putK kf (kN k) (V.bl true)))) wa = some (.lst (nl wl')) := by rw [upd_ne (Ne.symm hfw)]; exact CG.w
          have sN : Same H (upd G fo (.dK (putK kf (kN k) (V.bl true)))) := Same.trans RW.s (CG.s.wr hfo)
          refine ⟨_, rfl, .inl ⟨rfl, _, SqL.of hw3⟩, _, rfl, _, rfl, _, rfl, p, n, qa, ts, es, k, x, rfl, N.same sN, hke, wa, _, _, rfl, rfl, hw3, (by have := CG.bd; rw [nl_len, sizeLine_eq]; omega), ?_⟩
          rw [nl_app]
          refine ⟨fk' ++ [k], wl' ++ [oth (es.getD k (0, 0)) x], _, rfl, ⟨(CG.s.wr hfo).wr hwt, upd_same, ⟨putK kf (kN k) (V.bl true), by rw [upd_ne hfw, upd_same], by rw [putK_new _ hnone, List.map_append, hkk, List.map_append]; rfl⟩, hnd, hlt, (by have := CG.bd; rw [List.length_append, List.length_append, List.length_singleton, List.length_singleton]; omega)⟩, by rw [upd_ne hlw, upd_ne hlf]; exact gl, WG.add hke hkp hkx, fun j' k' hj' hk' => ?_, ?_⟩
          · by_cases e : j' = j
            · subst e
              rw [hk] at hk'
              cases hk'
              exact List.mem_append_right _ (List.mem_singleton.mpr rfl)
            · exact List.mem_append_left _ (hin j' k' (by omega) hk')
          · rw [List.length_append, List.length_append, List.length_singleton, List.length_singleton]
            omega
        · have hyes : k ∈ fk' := (vin hkk k).mp (by
            cases z : (valV kf (kN k)).isSome with
            | true => rfl
            | false => rw [z] at hz; exact absurd rfl hz)
          refine ⟨fk', wl', _, rfl, CG, gl, WG, fun j' k' hj' hk' => ?_, hms⟩
          by_cases e : j' = j
          · subst e
            rw [hk] at hk'
            cases hk'
            exact hyes
          · exact hin j' k' (by omega) hk'
      · subst e
        refine ⟨_, ?_, fk', wl', _, _, _, rfl, rfl, CG, WG.close fun k h1 h2 h3 => ?_⟩
        · rw [List.length_append, List.length_singleton]
          omega
        · obtain ⟨j, hj, ej⟩ := List.getElem_of_mem ((hks k).mpr ⟨h1, h2, h3⟩)
          exact hin j k (by rw [nl_len]; exact hj) (by rw [List.getElem?_eq_getElem hj, ej])
    · have hwl : wl = [] := by
        cases wl with
        | nil => rfl
        | cons x l => exact absurd rfl hz
      subst hwl
      obtain ⟨kf, hkf, hkk⟩ := C.f
      have hdone := WW.done (fun x hx => by cases hx)
      have hkn : kf.map (·.1) = (fk.map fun x : Nat => (x : Int)).map Sum.inl := by rw [hkk, List.map_map]; rfl
      refine ⟨_, rfl, fo, kf, fk.map fun x : Nat => (x : Int), rfl, hkf, hkn, by rw [List.length_map]; omega, fun l ns' H2 s2 hl2 hp hs => ?_⟩
      refine ⟨l, _, rfl, .inl hl2, fun t H3 s3 ht => ?_⟩
      have hnn : ∀ x ∈ ns', 0 ≤ x := fun x hx => by
        obtain ⟨y, _, rfl⟩ := List.mem_map.mp (hp.mem_iff.mp hx)
        omega
      have hnl : ns'.map V.int = nl (ns'.map Int.toNat) := by
        unfold nl
        rw [List.map_map]
        refine List.map_congr_left fun x hx => ?_
        show V.int x = V.int ((x.toNat : Nat) : Int)
        rw [Int.toNat_of_nonneg (hnn x hx)]
      have hmem : ∀ k : Nat, k ∈ ns'.map Int.toNat ↔ k ∈ fk := fun k => by
        rw [List.mem_map]
        constructor
        · rintro ⟨x, hx, rfl⟩
          obtain ⟨y, hy, rfl⟩ := List.mem_map.mp (hp.mem_iff.mp hx)
          exact hy
        · intro hk
          exact ⟨(k : Int), hp.mem_iff.mpr (List.mem_map_of_mem (f := fun x : Nat => (x : Int)) hk), rfl⟩
      have hndI : ns'.Nodup := hp.nodup_iff.mpr (by
        rw [List.Nodup, List.pairwise_map]
        exact List.Pairwise.imp (fun {a b} h z => h (by omega)) C.nd)
      have hrise : (ns'.map Int.toNat).Pairwise (· < ·) := by
        rw [List.pairwise_map]
        refine List.Pairwise.imp_of_mem (fun {a b} ha hb h => ?_) (hs.and hndI)
        have := hnn a ha
        have := hnn b hb
        omega
      rw [hnl] at ht
      exact q H3 t _ (Same.trans (Same.trans (Same.trans RW.s C.s) s2) s3) ht hrise fun k => (hmem k).trans (hdone k)
end
end My
set_option Elab.async false
set_option linter.all false
set_option maxRecDepth 100000
set_option maxHeartbeats 4000000
namespace My
open PySem L2
def swp (tl : List (Option Nat)) (u v k : Nat) : Option Nat := some (if tl.getD k none = some u then v else u)
def trn (tl : List (Option Nat)) (u v : Nat) (S : List Nat) : List (Option Nat) := S.foldl (fun r k => r.set k (swp tl u v k)) tl
theorem trn_len (tl : List (Option Nat)) (u v : Nat) (S : List Nat) : (trn tl u v S).length = tl.length := by
  unfold trn
  have key : ∀ (S : List Nat) (r : List (Option Nat)), (S.foldl (fun r k => r.set k (swp tl u v k)) r).length = r.length := by
    intro S
    induction S with
    | nil => intro r; rfl
    | cons k S ih => intro r; rw [List.foldl_cons, ih, List.length_set]
  exact key S tl
theorem trn_snoc (tl : List (Option Nat)) (u v : Nat) (S : List Nat) (k : Nat) : trn tl u v (S ++ [k]) = (trn tl u v S).set k (swp tl u v k) := by
  unfold trn; rw [List.foldl_append]; rfl
theorem trn_get (tl : List (Option Nat)) (u v : Nat) (S : List Nat) (k : Nat) : (trn tl u v S)[k]? = if k ∈ S ∧ k < tl.length then some (swp tl u v k) else tl[k]? := by
  have key : ∀ (S : List Nat) (r : List (Option Nat)), r.length = tl.length → (S.foldl (fun r k => r.set k (swp tl u v k)) r)[k]? = if k ∈ S ∧ k < tl.length then some (swp tl u v k) else r[k]? := by
    intro S
    induction S with
    | nil => intro r _; rw [if_neg (fun z => by cases z.1)]; rfl
    | cons j S ih =>
      intro r hr
      rw [List.foldl_cons, ih _ (by rw [List.length_set]; exact hr)]
      by_cases h1 : k ∈ S ∧ k < tl.length
      · rw [if_pos h1, if_pos ⟨.tail _ h1.1, h1.2⟩]
      · rw [if_neg h1, List.getElem?_set]
        by_cases e : j = k
        · subst e
          by_cases hl : j < tl.length
          · rw [if_pos rfl, if_pos (by omega), if_pos ⟨.head _, hl⟩]
          · rw [if_pos rfl, if_neg (by omega), if_neg (fun z => hl z.2), List.getElem?_eq_none (by omega)]
        · rw [if_neg e, if_neg]
          rintro ⟨z, hl⟩
          rcases List.mem_cons.mp z with z | z
          · exact e z.symm
          · exact h1 ⟨z, hl⟩
  exact key S tl rfl
theorem tv_set (tl : List (Option Nat)) (k : Nat) (o : Option Nat) : (tv tl).set k (tN o) = tv (tl.set k o) := by unfold tv; rw [List.map_set]
section
variable {es : List (Nat × Nat)} {tl : List (Option Nat)} {u v p : Nat} {S : List Nat}
theorem getD_of_get {k : Nat} {o : Option Nat} (h : tl[k]? = some o) : tl.getD k none = o := by rw [List.getD_eq_getElem?_getD, h]; rfl
theorem swp_u {k : Nat} (h : tl[k]? = some (some u)) : swp tl u v k = some v := by unfold swp; rw [getD_of_get h, if_pos rfl]
theorem swp_v {k : Nat} (huv : u ≠ v) (h : tl[k]? = some (some v)) : swp tl u v k = some u := by
  unfold swp; rw [getD_of_get h, if_neg fun z => huv (Option.some.inj z).symm]
theorem in_lt {k : Nat} (h : InP tl u v k) : k < tl.length := by
  rcases h with h | h <;> exact (List.getElem?_eq_some_iff.mp h).1
theorem trn_in {k : Nat} (h : k ∈ S) (hi : InP tl u v k) : (trn tl u v S)[k]? = some (swp tl u v k) := by rw [trn_get, if_pos ⟨h, in_lt hi⟩]
theorem trn_out {k : Nat} (h : k ∉ S) : (trn tl u v S)[k]? = tl[k]? := by rw [trn_get, if_neg fun z => h z.1]
theorem inp_trn (huv : u ≠ v) (hS : ∀ k ∈ S, InP tl u v k) (k : Nat) : InP (trn tl u v S) u v k ↔ InP tl u v k := by
  by_cases h : k ∈ S
  · have hi := hS k h
    refine ⟨fun _ => hi, fun _ => ?_⟩
    rcases hi with e | e
    · exact .inr (by rw [trn_in h (.inl e), swp_u e])
    · exact .inl (by rw [trn_in h (.inr e), swp_v huv e])
  · unfold InP
    rw [trn_out h]
theorem trn_clean (huv : u ≠ v) (hS : ∀ k, k ∈ S ↔ RT es tl u v p k) (hc : CleanTo es tl es.length) : CleanTo es (trn tl u v S) es.length := by
  have hI : ∀ k ∈ S, InP tl u v k := fun k hk => ((hS k).mp hk).2.1
  have mix : ∀ i j t, i ∈ S → j ∉ S → j < es.length → (trn tl u v S)[i]? = some (some t) → (trn tl u v S)[j]? = some (some t) → ∀ x, At (es.getD i (0, 0)) x → ¬ At (es.getD j (0, 0)) x := by
    intro i j t hi hj hjl ei ej x hx hy
    have e1 : InP (trn tl u v S) u v i := (inp_trn huv hI i).mpr (hI i hi)
    have ht : t = u ∨ t = v := by
      rcases e1 with e | e
      · rw [ei] at e; exact .inl (Option.some.inj (Option.some.inj e))
      · rw [ei] at e; exact .inr (Option.some.inj (Option.some.inj e))
    have e2 : InP tl u v j := by
      rw [trn_out hj] at ej
      rcases ht with rfl | rfl
      · exact .inl ej
      · exact .inr ej
    exact hj ((hS j).mpr ⟨hjl, e2, x, ((hS i).mp hi).end hx, hy⟩)
  intro i j t hji hi ei ej x hx hy
  by_cases h1 : i ∈ S
  · by_cases h2 : j ∈ S
    · have same : ∃ t', tl[i]? = some (some t') ∧ tl[j]? = some (some t') := by
        rw [trn_in h1 (hI i h1)] at ei
        rw [trn_in h2 (hI j h2)] at ej
        rcases hI i h1 with a | a <;> rcases hI j h2 with b | b
        · exact ⟨u, a, b⟩
        · rw [swp_u a] at ei
          rw [swp_v huv b] at ej
          exact absurd ((Option.some.inj (Option.some.inj ej)).trans (Option.some.inj (Option.some.inj ei)).symm) huv
        · rw [swp_v huv a] at ei
          rw [swp_u b] at ej
          exact absurd ((Option.some.inj (Option.some.inj ei)).trans (Option.some.inj (Option.some.inj ej)).symm) huv
        · exact ⟨v, a, b⟩
      obtain ⟨t', a, b⟩ := same
      exact hc i j t' hji hi a b x hx hy
    · exact mix i j t h1 h2 (by omega) ei ej x hx hy
  · by_cases h2 : j ∈ S
    · exact mix j i t h2 h1 hi ej ei x hy hx
    · rw [trn_out h1] at ei
      rw [trn_out h2] at ej
      exact hc i j t hji hi ei ej x hx hy
end
theorem deg_filter {es : List (Nat × Nat)} (x : Nat) : ∀ {S : List Nat}, (∀ k ∈ S, (es.getD k (0, 0)).1 ≠ (es.getD k (0, 0)).2) → deg es S x = (S.filter fun k => decide (x = (es.getD k (0, 0)).1 ∨ x = (es.getD k (0, 0)).2)).length
  | [], _ => rfl
  | k :: S, h => by
    have ih := deg_filter x (S := S) fun k hk => h k (.tail _ hk)
    have hne := h k (.head _)
    show (if _ then 1 else 0) + (if _ then 1 else 0) + deg es S x = _
    rw [List.filter_cons, ih]
    by_cases e1 : (es.getD k (0, 0)).1 = x
    · have e2 : ¬ (es.getD k (0, 0)).2 = x := fun z => hne (e1.trans z.symm)
      rw [if_pos e1, if_neg e2, if_pos (decide_eq_true (.inl e1.symm)), List.length_cons]
      omega
    · by_cases e2 : (es.getD k (0, 0)).2 = x
      · rw [if_neg e1, if_pos e2, if_pos (decide_eq_true (.inr e2.symm)), List.length_cons]
        omega
      · rw [if_neg e1, if_neg e2, if_neg (fun z => (of_decide_eq_true z).elim (fun z => e1 z.symm) fun z => e2 z.symm)]
        omega
theorem deg_pos {es : List (Nat × Nat)} {x k : Nat} : ∀ {S : List Nat}, k ∈ S → At (es.getD k (0, 0)) x → 1 ≤ deg es S x
  | j :: S, h, ha => by
    show 1 ≤ (if _ then 1 else 0) + (if _ then 1 else 0) + deg es S x
    rcases List.mem_cons.mp h with rfl | h
    · rcases ha with e | e
      · rw [if_pos e.symm]; omega
      · rw [if_pos e.symm]; omega
    · have := deg_pos h ha
      omega
theorem deg_at {es : List (Nat × Nat)} {x : Nat} : ∀ {S : List Nat}, 1 ≤ deg es S x → ∃ k ∈ S, At (es.getD k (0, 0)) x
  | [], h => absurd (show 1 ≤ 0 from h) (by decide)
  | j :: S, h => by
    have h' : 1 ≤ (if (es.getD j (0, 0)).1 = x then 1 else 0) + (if (es.getD j (0, 0)).2 = x then 1 else 0) + deg es S x := h
    by_cases e1 : (es.getD j (0, 0)).1 = x
    · exact ⟨j, .head _, .inl e1.symm⟩
    · by_cases e2 : (es.getD j (0, 0)).2 = x
      · exact ⟨j, .head _, .inr e2.symm⟩
      · rw [if_neg e1, if_neg e2] at h'
        obtain ⟨k, hk, z⟩ := deg_at (es := es) (x := x) (S := S) (by omega)
        exact ⟨k, .tail _ hk, z⟩
theorem deg_le {es : List (Nat × Nat)} {tl : List (Option Nat)} {u v : Nat} {S : List Nat} (nd : S.Nodup) (hk : ∀ k ∈ S, k < es.length ∧ InP tl u v k) (hne : ∀ k ∈ S, (es.getD k (0, 0)).1 ≠ (es.getD k (0, 0)).2) (hc : CleanTo es tl es.length) (x : Nat) : deg es S x ≤ 2 := by
  rw [deg_filter x hne]
  have hF : ∀ k ∈ S.filter fun k => decide (x = (es.getD k (0, 0)).1 ∨ x = (es.getD k (0, 0)).2), k ∈ S ∧ At (es.getD k (0, 0)) x := fun k hk => ⟨(List.mem_filter.mp hk).1, show x = (es.getD k (0, 0)).1 ∨ x = (es.getD k (0, 0)).2 from of_decide_eq_true (List.mem_filter.mp hk).2⟩
  have hnF : (S.filter fun k => decide (x = (es.getD k (0, 0)).1 ∨ x = (es.getD k (0, 0)).2)).Nodup := nd.filter _
  generalize (S.filter fun k => decide (x = (es.getD k (0, 0)).1 ∨ x = (es.getD k (0, 0)).2)) = F at *
  have h1 : (F.map fun k => if tl[k]? = some (some u) then 0 else 1).Nodup := by
    unfold List.Nodup
    rw [List.pairwise_map]
    refine List.Pairwise.imp_of_mem (fun {a b} ha hb hab z => ?_) hnF
    obtain ⟨ha1, ha2⟩ := hF a ha
    obtain ⟨hb1, hb2⟩ := hF b hb
    have same : ∃ t, tl[a]? = some (some t) ∧ tl[b]? = some (some t) := by
      by_cases ea : tl[a]? = some (some u)
      · by_cases eb : tl[b]? = some (some u)
        · exact ⟨u, ea, eb⟩
        · rw [if_pos ea, if_neg eb] at z; cases z
      · by_cases eb : tl[b]? = some (some u)
        · rw [if_neg ea, if_pos eb] at z; cases z
        · exact ⟨v, (hk a ha1).2.resolve_left ea, (hk b hb1).2.resolve_left eb⟩
    obtain ⟨t, ta, tb⟩ := same
    rcases Nat.lt_trichotomy a b with h | h | h
    · exact hc b a t h (hk b hb1).1 tb ta x hb2 ha2
    · exact hab h
    · exact hc a b t h (hk a ha1).1 ta tb x ha2 hb2
  have h2 := len_lt (n := 2) h1 fun y hy => by
    obtain ⟨k, _, rfl⟩ := List.mem_map.mp hy
    split <;> omega
  rw [List.length_map] at h2
  exact h2
section
variable {es : List (Nat × Nat)} {tl : List (Option Nat)} {u v p : Nat} {S : List Nat}
def swt (u v t : Nat) : Nat := if t = u then v else u
theorem used_swap (huv : u ≠ v) (hS : ∀ k, k ∈ S ↔ RT es tl u v p k) {x t : Nat} (hx : RP es tl u v p x) (ht : t = u ∨ t = v) : Used es (trn tl u v S) es.length x t ↔ Used es tl es.length x (swt u v t) := by
  have hI : ∀ k ∈ S, InP tl u v k := fun k hk => ((hS k).mp hk).2.1
  constructor
  · rintro ⟨j, hj, e, ha⟩
    have hi : InP (trn tl u v S) u v j := ht.elim (fun z => .inl (z ▸ e)) fun z => .inr (z ▸ e)
    have hi' := (inp_trn huv hI j).mp hi
    have hm : j ∈ S := (hS j).mpr ⟨hj, hi', x, hx, ha⟩
    refine ⟨j, hj, ?_, ha⟩
    rw [trn_in hm hi'] at e
    rcases hi' with a | a
    · rw [swp_u a] at e
      have : t = v := (Option.some.inj (Option.some.inj e)).symm
      unfold swt
      rw [if_neg (fun z => huv (z.symm.trans this)), a]
    · rw [swp_v huv a] at e
      have : t = u := (Option.some.inj (Option.some.inj e)).symm
      unfold swt
      rw [if_pos this, a]
  · rintro ⟨j, hj, e, ha⟩
    have hi : InP tl u v j := by
      rcases ht with rfl | rfl
      · unfold swt at e; rw [if_pos rfl] at e; exact .inr e
      · unfold swt at e; rw [if_neg (Ne.symm huv)] at e; exact .inl e
    have hm : j ∈ S := (hS j).mpr ⟨hj, hi, x, hx, ha⟩
    refine ⟨j, hj, ?_, ha⟩
    rw [trn_in hm hi]
    rcases ht with rfl | rfl
    · unfold swt at e; rw [if_pos rfl] at e; rw [swp_v huv e]
    · unfold swt at e; rw [if_neg (Ne.symm huv)] at e; rw [swp_u e]
end
theorem rp_first {es : List (Nat × Nat)} {tl : List (Option Nat)} {u v p y : Nat} (h : RP es tl u v p y) : y = p ∨ ∃ k, RT es tl u v p k ∧ At (es.getD k (0, 0)) p := by
  induction h with
  | start => exact .inl rfl
  | step hx hk hi ha hb ih =>
    rcases ih with e | e
    · subst e
      exact .inr ⟨_, ⟨hk, hi, _, .start, ha⟩, ha⟩
    · exact .inr e
theorem rp_tie {es : List (Nat × Nat)} {tl : List (Option Nat)} {u v p y : Nat} (h : RP es tl u v p y) (hs : ∃ k, RT es tl u v p k) : ∃ k, RT es tl u v p k ∧ At (es.getD k (0, 0)) y := by
  cases h with
  | start =>
    obtain ⟨k, hk, hi, x, hx, ha⟩ := hs
    rcases rp_first hx with e | e
    · subst e
      exact ⟨k, ⟨hk, hi, _, hx, ha⟩, ha⟩
    · exact e
  | step hx hk hi ha hb => exact ⟨_, ⟨hk, hi, _, hx, ha⟩, hb⟩
theorem ends_len {es : List (Nat × Nat)} {tl : List (Option Nat)} {u v p : Nat} {S pts E : List Nat} (hc : CleanTo es tl es.length) (hne : ∀ k, k < es.length → (es.getD k (0, 0)).1 ≠ (es.getD k (0, 0)).2) (hS : S.Pairwise (· < ·)) (hRT : ∀ k, k ∈ S ↔ RT es tl u v p k)
    (nd : pts.Nodup) (hp : ∀ k ∈ S, (es.getD k (0, 0)).1 ∈ pts ∧ (es.getD k (0, 0)).2 ∈ pts) (hl : pts.length ≤ S.length + 1) (hr : ∀ x ∈ pts, RP es tl u v p x) (hE : E.Pairwise (· < ·)) (hEx : ∀ x, x ∈ E ↔ deg es S x = 1) : E.length = 0 ∨ E.length = 2 := by
  have hSn : S.Nodup := hS.imp fun z => Nat.ne_of_lt z
  have hEn : E.Nodup := hE.imp fun z => Nat.ne_of_lt z
  cases hse : S with
  | nil =>
    refine .inl ?_
    cases E with
    | nil => rfl
    | cons x E =>
      have := (hEx x).mp (.head _)
      rw [hse] at this
      cases this
  | cons k0 S0 =>
    have hk0 : k0 ∈ S := by rw [hse]; exact .head _
    rw [← hse] at *
    have hd : ∀ x ∈ pts, deg es S x = 1 ∨ deg es S x = 2 := fun x hx => by
      obtain ⟨k, hk, ha⟩ := rp_tie (hr x hx) ⟨k0, (hRT k0).mp hk0⟩
      have h1 := deg_pos ((hRT k).mpr hk) ha
      have h2 := deg_le hSn (fun k hk => ⟨((hRT k).mp hk).1, ((hRT k).mp hk).2.1⟩) (fun k hk => hne k ((hRT k).mp hk).1) hc x
      omega
    have key := ends_two nd hp hd hl
    have hlen : E.length = (pts.filter fun x => decide (deg es S x = 1)).length := by
      refine List.Perm.length_eq ((List.perm_ext_iff_of_nodup hEn (nd.filter _)).mpr fun x => ?_)
      rw [hEx x, List.mem_filter, decide_eq_true_iff]
      refine ⟨fun z => ⟨?_, z⟩, fun z => z.2⟩
      obtain ⟨k, hk, ha⟩ := deg_at (es := es) (x := x) (S := S) (by omega)
      rcases ha with e | e
      · rw [e]; exact (hp k hk).1
      · rw [e]; exact (hp k hk).2
    rw [hlen]
    exact key
def addN (l : List Nat) (x : Nat) : List Nat := if x ∈ l then l else l ++ [x]
theorem mem_addN {l : List Nat} {x y : Nat} : y ∈ addN l x ↔ y ∈ l ∨ y = x := by
  unfold addN
  split
  · rename_i h
    exact ⟨.inl, fun z => z.elim id fun e => e ▸ h⟩
  · rw [List.mem_append, List.mem_singleton]
theorem addN_nodup {l : List Nat} {x : Nat} (h : l.Nodup) : (addN l x).Nodup := by
  unfold addN
  split
  · exact h
  · rename_i hn
    rw [List.nodup_append]
    exact ⟨h, List.nodup_cons.mpr ⟨List.not_mem_nil, List.nodup_nil⟩, fun a ha b hb z => by rw [List.mem_singleton] at hb; subst hb z; exact hn ha⟩
theorem addN_get {l : List Nat} {x y i : Nat} (h : l[i]? = some y) : (addN l x)[i]? = some y := by
  unfold addN
  split
  · exact h
  · rw [List.getElem?_append_left (List.getElem?_eq_some_iff.mp h).1]; exact h
theorem addN_len {l : List Nat} {x : Nat} : (addN l x).length ≤ l.length + 1 := by
  unfold addN
  split
  · omega
  · rw [List.length_append]; exact Nat.le_refl _
theorem addN_in {l : List Nat} {x : Nat} (h : x ∈ l) : addN l x = l := by unfold addN; rw [if_pos h]
structure Cm (es : List (Nat × Nat)) (tl : List (Option Nat)) (u v p n a : Nat) (met known : List Nat) : Prop where
  kn : known.Nodup
  kr : ∀ x ∈ known, RP es tl u v p x
  kp : p ∈ known
  klt : ∀ x ∈ known, x < n
  mn : met.Nodup
  mr : ∀ k ∈ met, RT es tl u v p k
  me : ∀ k ∈ met, (es.getD k (0, 0)).1 ∈ known ∧ (es.getD k (0, 0)).2 ∈ known
  cl : ∀ i x, i < a → known[i]? = some x → ∀ k, k < es.length → InP tl u v k → At (es.getD k (0, 0)) x → k ∈ met
  le : known.length ≤ met.length + 1
theorem Cm.start {es : List (Nat × Nat)} {tl : List (Option Nat)} {u v p n : Nat} (h : p < n) : Cm es tl u v p n 0 [] [p] :=
  ⟨List.nodup_cons.mpr ⟨List.not_mem_nil, List.nodup_nil⟩, (fun x hx => by rw [List.mem_singleton.mp hx]; exact .start), List.mem_singleton.mpr rfl, (fun x hx => by rw [List.mem_singleton.mp hx]; exact h), List.nodup_nil, (fun k hk => by cases hk), (fun k hk => by cases hk), (fun i x hi => absurd hi (Nat.not_lt_zero _)), Nat.le_refl _⟩
theorem Cm.add {es : List (Nat × Nat)} {tl : List (Option Nat)} {u v p n a x k : Nat} {met known : List Nat} (h : Cm es tl u v p n a met known) (hx : known[a]? = some x) (hk : k < es.length) (hi : InP tl u v k) (hat : At (es.getD k (0, 0)) x) (hno : k ∉ met) (h1 : (es.getD k (0, 0)).1 < n) (h2 : (es.getD k (0, 0)).2 < n) :
    Cm es tl u v p n a (met ++ [k]) (addN (addN known (es.getD k (0, 0)).1) (es.getD k (0, 0)).2) := by
  have hxm := List.mem_of_getElem? hx
  have rt : RT es tl u v p k := ⟨hk, hi, x, h.kr x hxm, hat⟩
  have hal : a < known.length := (List.getElem?_eq_some_iff.mp hx).1
  have key : ∀ y, y ∈ addN (addN known (es.getD k (0, 0)).1) (es.getD k (0, 0)).2 ↔ (y ∈ known ∨ y = (es.getD k (0, 0)).1) ∨ y = (es.getD k (0, 0)).2 := fun y => by rw [mem_addN, mem_addN]
  refine ⟨addN_nodup (addN_nodup h.kn), fun y hy => ?_, (key p).mpr (.inl (.inl h.kp)), fun y hy => ?_, ?_, fun j hj => ?_, fun j hj => ?_, fun i y hi' hy j a1 a2 a3 => ?_, ?_⟩
  · rcases (key y).mp hy with (z | rfl) | rfl
    · exact h.kr y z
    · exact rt.end (.inl rfl)
    · exact rt.end (.inr rfl)
  · rcases (key y).mp hy with (z | rfl) | rfl
    · exact h.klt y z
    · exact h1
    · exact h2
  · rw [List.nodup_append]
    exact ⟨h.mn, List.nodup_cons.mpr ⟨List.not_mem_nil, List.nodup_nil⟩, fun a ha b hb z => by rw [List.mem_singleton] at hb; subst hb z; exact hno ha⟩
  · rcases List.mem_append.mp hj with z | z
    · exact h.mr j z
    · rw [List.mem_singleton.mp z]; exact rt
  · rcases List.mem_append.mp hj with z | z
    · exact ⟨(key _).mpr (.inl (.inl (h.me j z).1)), (key _).mpr (.inl (.inl (h.me j z).2))⟩
    · rw [List.mem_singleton.mp z]; exact ⟨(key _).mpr (.inl (.inr rfl)), (key _).mpr (.inr rfl)⟩
  · have hil : i < known.length := by omega
    have e : known[i]? = some y := by
      have h3 := addN_get (x := (es.getD k (0, 0)).2) (addN_get (x := (es.getD k (0, 0)).1) (List.getElem?_eq_getElem hil))
      rw [hy] at h3
      rw [List.getElem?_eq_getElem hil, ← Option.some.inj h3]
    exact List.mem_append_left _ (h.cl i y hi' e j a1 a2 a3)
  · rw [List.length_append, List.length_singleton]
    have hle := h.le
    rcases hat with e | e
    · rw [addN_in (l := known) (x := (es.getD k (0, 0)).1) (e ▸ hxm)]
      have := addN_len (l := known) (x := (es.getD k (0, 0)).2)
      omega
    · rw [addN_in (l := addN known (es.getD k (0, 0)).1) (x := (es.getD k (0, 0)).2) (mem_addN.mpr (.inl (e ▸ hxm)))]
      have := addN_len (l := known) (x := (es.getD k (0, 0)).1)
      omega
theorem Cm.next {es : List (Nat × Nat)} {tl : List (Option Nat)} {u v p n a x : Nat} {met known : List Nat} (h : Cm es tl u v p n a met known) (hx : known[a]? = some x) (hc : ∀ k, k < es.length → InP tl u v k → At (es.getD k (0, 0)) x → k ∈ met) : Cm es tl u v p n (a + 1) met known :=
  ⟨h.kn, h.kr, h.kp, h.klt, h.mn, h.mr, h.me, (fun i y hi hy => by
    by_cases e : i = a
    · subst e
      rw [hx] at hy
      cases hy
      exact hc
    · exact h.cl i y (by omega) hy), h.le⟩
theorem Cm.done {es : List (Nat × Nat)} {tl : List (Option Nat)} {u v p n a : Nat} {met known : List Nat} (h : Cm es tl u v p n a met known) (ha : known.length ≤ a) : ∀ k, k ∈ met ↔ RT es tl u v p k := by
  have W : Walk es tl u v p (· ∈ met) (· ∈ known) (fun _ => False) := by
    refine ⟨h.mr, fun x z => z.elim, fun x hx k a1 a2 a3 => ?_, fun k hk x hx => .inl ?_, .inl h.kp⟩
    · obtain ⟨i, hi, e⟩ := List.getElem_of_mem hx
      exact h.cl i x (by omega) (by rw [List.getElem?_eq_getElem hi, e]) k a1 a2 a3
    · rcases hx with rfl | rfl
      · exact (h.me k hk).1
      · exact (h.me k hk).2
  exact W.done fun x z => z
theorem in_nl (k : Nat) (l : List Nat) : inV (.int (k : Int)) (nl l) = true ↔ k ∈ l := by
  unfold inV nl
  rw [List.any_map, List.any_eq_true]
  constructor
  · rintro ⟨x, hx, e⟩
    have e' : ((x : Int) == (k : Int)) = true := e
    have := eq_of_beq e'
    rw [show k = x by omega]
    exact hx
  · intro h
    exact ⟨k, h, (beq_iff_eq.mpr rfl : ((k : Int) == (k : Int)) = true)⟩
theorem flat_nl (l : List Nat) : (nl l).all flatV = true := by
  unfold nl
  rw [List.all_map, List.all_eq_true]
  exact fun x _ => rfl
theorem in_pair {tl : List (Option Nat)} {u v k : Nat} {o : Option Nat} (h : tl[k]? = some o) : inV (tN o) (nl [u, v]) = true ↔ InP tl u v k := by
  unfold InP
  rw [h]
  cases o with
  | none =>
    constructor
    · intro z; cases z
    · rintro (z | z) <;> cases z
  | some t =>
    refine (in_nl t [u, v]).trans ?_
    constructor
    · intro z
      rcases List.mem_cons.mp z with rfl | z
      · exact .inl rfl
      · rw [List.mem_singleton.mp z]; exact .inr rfl
    · rintro (z | z)
      · rw [Option.some.inj (Option.some.inj z)]; exact .head _
      · rw [Option.some.inj (Option.some.inj z)]; exact .tail _ (.head _)
theorem flat_tN (o : Option Nat) : flatV (tN o) = true := by cases o <;> rfl
end My
set_option Elab.async false
set_option linter.all false
set_option maxRecDepth 100000
set_option maxHeartbeats 4000000
namespace My
open PySem L2
theorem Cm.pass {es : List (Nat × Nat)} {tl : List (Option Nat)} {u v p n a x : Nat} (ok : ∀ e ∈ es, e.1 < n ∧ e.2 < n ∧ e.1 ≠ e.2) : ∀ (k : Nat), k ≤ es.length → ∀ {met known : List Nat}, Cm es tl u v p n a met known → known[a]? = some x →
    ∃ met' known', Cm es tl u v p n a met' known' ∧ known'[a]? = some x ∧ ∀ j, j < k → InP tl u v j → At (es.getD j (0, 0)) x → j ∈ met'
  | 0, _, met, known, C, hx => ⟨met, known, C, hx, fun j hj => absurd hj (Nat.not_lt_zero _)⟩
  | k + 1, hk, met, known, C, hx => by
    obtain ⟨met', known', C', hx', h'⟩ := Cm.pass ok k (by omega) C hx
    by_cases h : InP tl u v k ∧ At (es.getD k (0, 0)) x ∧ k ∉ met'
    · obtain ⟨h1, h2, h3⟩ := h
      have hok := ok _ (getD_mem (show k < es.length by omega))
      refine ⟨_, _, C'.add hx' (by omega) h1 h2 h3 hok.1 hok.2.1, addN_get (addN_get hx'), fun j hj a1 a2 => ?_⟩
      by_cases e : j = k
      · subst e
        exact List.mem_append_right _ (List.mem_singleton.mpr rfl)
      · exact List.mem_append_left _ (h' j (by omega) a1 a2)
    · refine ⟨met', known', C', hx', fun j hj a1 a2 => ?_⟩
      by_cases e : j = k
      · subst e
        exact Classical.byContradiction fun z => h ⟨a1, a2, z⟩
      · exact h' j (by omega) a1 a2
theorem Cm.run {es : List (Nat × Nat)} {tl : List (Option Nat)} {u v p n : Nat} (ok : ∀ e ∈ es, e.1 < n ∧ e.2 < n ∧ e.1 ≠ e.2) : ∀ (d a : Nat) {met known : List Nat}, n - a ≤ d → Cm es tl u v p n a met known → ∃ a' met' known', Cm es tl u v p n a' met' known' ∧ known'.length ≤ a'
  | d, a, met, known, hd, C => by
    by_cases h : known.length ≤ a
    · exact ⟨a, met, known, C, h⟩
    · have hkl : known.length ≤ n := len_lt C.kn C.klt
      obtain ⟨x, hx⟩ : ∃ x, known[a]? = some x := ⟨_, List.getElem?_eq_getElem (by omega)⟩
      obtain ⟨met', known', C', hx', h'⟩ := Cm.pass ok es.length (Nat.le_refl _) C hx
      cases d with
      | zero => omega
      | succ d => exact Cm.run ok d (a + 1) (by omega) (C'.next hx' h')
theorem chain_pts {es : List (Nat × Nat)} {tl : List (Option Nat)} {u v p n : Nat} {S : List Nat} (ok : ∀ e ∈ es, e.1 < n ∧ e.2 < n ∧ e.1 ≠ e.2) (hp : p < n) (hS : S.Pairwise (· < ·)) (hR : ∀ k, k ∈ S ↔ RT es tl u v p k) :
    ∃ pts : List Nat, pts.Nodup ∧ (∀ k ∈ S, (es.getD k (0, 0)).1 ∈ pts ∧ (es.getD k (0, 0)).2 ∈ pts) ∧ pts.length ≤ S.length + 1 ∧ ∀ x ∈ pts, RP es tl u v p x := by
  obtain ⟨a, met, known, C, h⟩ := Cm.run ok n 0 (by omega) (Cm.start (es := es) (tl := tl) (u := u) (v := v) hp)
  have hm := C.done h
  have hl : met.length = S.length := ((List.perm_ext_iff_of_nodup C.mn (hS.imp fun z => Nat.ne_of_lt z)).mpr fun k => by rw [hm k, hR k]).length_eq
  exact ⟨known, C.kn, fun k hk => C.me k ((hm k).mpr ((hR k).mp hk)), by have := C.le; omega, C.kr⟩
theorem sum_le {f : Nat → Nat} (h : ∀ x, f x ≤ 2) : ∀ l : List Nat, sumOver f l ≤ 2 * l.length
  | [] => Nat.le_refl _
  | x :: l => by
    have := sum_le h l
    have := h x
    show f x + sumOver f l ≤ 2 * (l.length + 1)
    omega
section
variable {es : List (Nat × Nat)} {tl : List (Option Nat)} {u v p n : Nat} {S : List Nat}
theorem ok_ne (ok : ∀ e ∈ es, e.1 < n ∧ e.2 < n ∧ e.1 ≠ e.2) : ∀ k, k < es.length → (es.getD k (0, 0)).1 ≠ (es.getD k (0, 0)).2 := fun k hk => (ok _ (getD_mem hk)).2.2
theorem chain_len (ok : ∀ e ∈ es, e.1 < n ∧ e.2 < n ∧ e.1 ≠ e.2) (hc : CleanTo es tl es.length) (hS : S.Pairwise (· < ·)) (hR : ∀ k, k ∈ S ↔ RT es tl u v p k) : S.length ≤ n := by
  have h1 := sum_deg (es := es) (pts := List.range n) List.nodup_range (l := S) fun k hk => by
    have := ok _ (getD_mem ((hR k).mp hk).1)
    exact ⟨List.mem_range.mpr this.1, List.mem_range.mpr this.2.1⟩
  have h2 := sum_le (f := deg es S) (fun x => deg_le (hS.imp fun z => Nat.ne_of_lt z) (fun k hk => ⟨((hR k).mp hk).1, ((hR k).mp hk).2.1⟩) (fun k hk => ok_ne ok k ((hR k).mp hk).1) hc x) (List.range n)
  rw [List.length_range] at h2
  omega
theorem two_le {l : List Nat} (nd : l.Nodup) (h : ∀ a ∈ l, ∀ b ∈ l, a = b) : l.length ≤ 1 := by
  cases l with
  | nil => exact Nat.zero_le _
  | cons a l =>
    cases l with
    | nil => exact Nat.le_refl _
    | cons b l =>
      have e := h a (.head _) b (.tail _ (.head _))
      subst e
      exact absurd (List.mem_cons.mpr (.inl rfl)) (List.nodup_cons.mp nd).1
theorem deg_one (hS : S.Pairwise (· < ·)) (hR : ∀ k, k ∈ S ↔ RT es tl u v p k) (ok : ∀ e ∈ es, e.1 < n ∧ e.2 < n ∧ e.1 ≠ e.2) (hc : CleanTo es tl es.length) {x : Nat} (hf : ¬ Used es tl es.length x u ∨ ¬ Used es tl es.length x v) : deg es S x ≤ 1 := by
  rw [deg_filter x fun k hk => ok_ne ok k ((hR k).mp hk).1]
  refine two_le ((hS.imp fun z => Nat.ne_of_lt z).filter _) fun a ha b hb => ?_
  have key : ∀ c, c ∈ S.filter (fun k => decide (x = (es.getD k (0, 0)).1 ∨ x = (es.getD k (0, 0)).2)) → c < es.length ∧ At (es.getD c (0, 0)) x ∧ InP tl u v c := fun c hc' => by
    obtain ⟨h1, h2⟩ := List.mem_filter.mp hc'
    have h3 := (hR c).mp h1
    exact ⟨h3.1, (show x = (es.getD c (0, 0)).1 ∨ x = (es.getD c (0, 0)).2 from of_decide_eq_true h2), h3.2.1⟩
  obtain ⟨a1, a2, a3⟩ := key a ha
  obtain ⟨b1, b2, b3⟩ := key b hb
  obtain ⟨t, ta, tb⟩ : ∃ t, tl[a]? = some (some t) ∧ tl[b]? = some (some t) := by
    rcases hf with hf | hf
    · have h1 : ∀ c, c < es.length → At (es.getD c (0, 0)) x → InP tl u v c → tl[c]? = some (some v) := fun c c1 c2 c3 => c3.resolve_left fun z => hf ⟨c, c1, z, c2⟩
      exact ⟨v, h1 a a1 a2 a3, h1 b b1 b2 b3⟩
    · have h1 : ∀ c, c < es.length → At (es.getD c (0, 0)) x → InP tl u v c → tl[c]? = some (some u) := fun c c1 c2 c3 => c3.resolve_right fun z => hf ⟨c, c1, z, c2⟩
      exact ⟨u, h1 a a1 a2 a3, h1 b b1 b2 b3⟩
  rcases Nat.lt_trichotomy a b with h | h | h
  · exact absurd a2 (hc b a t h b1 tb ta x b2)
  · exact h
  · exact absurd b2 (hc a b t h a1 ta tb x a2)
theorem three_ends (ok : ∀ e ∈ es, e.1 < n ∧ e.2 < n ∧ e.1 ≠ e.2) (hp : p < n) (hc : CleanTo es tl es.length) (hS : S.Pairwise (· < ·)) (hR : ∀ k, k ∈ S ↔ RT es tl u v p k) {x y z : Nat} (hx : deg es S x = 1) (hy : deg es S y = 1) (hz : deg es S z = 1) (xy : x ≠ y) (xz : x ≠ z) (yz : y ≠ z) : False := by
  obtain ⟨pts, nd, h1, h2, h3⟩ := chain_pts ok hp hS hR
  have hlt : ∀ w, deg es S w = 1 → w < n := fun w hw => by
    obtain ⟨k, hk, ha⟩ := deg_at (es := es) (x := w) (S := S) (by omega)
    have := ok _ (getD_mem ((hR k).mp hk).1)
    rcases ha with e | e <;> omega
  have hE : ((List.range n).filter fun w => decide (deg es S w = 1)).Pairwise (· < ·) := List.Pairwise.filter _ List.pairwise_lt_range
  have hEx : ∀ w, w ∈ (List.range n).filter (fun w => decide (deg es S w = 1)) ↔ deg es S w = 1 := fun w => by
    rw [List.mem_filter, decide_eq_true_iff, List.mem_range]
    exact ⟨fun q => q.2, fun q => ⟨hlt w q, q⟩⟩
  have key := ends_len hc (ok_ne ok) hS hR nd h1 h2 h3 hE hEx
  have h3' := sub_len (a := [x, y, z]) (b := (List.range n).filter fun w => decide (deg es S w = 1)) (by
    rw [List.nodup_cons, List.nodup_cons]
    refine ⟨fun q => ?_, fun q => ?_, List.nodup_cons.mpr ⟨List.not_mem_nil, List.nodup_nil⟩⟩
    · simp only [List.mem_cons, List.not_mem_nil, or_false] at q
      rcases q with q | q
      · exact xy q
      · exact xz q
    · exact yz (List.mem_singleton.mp q)) fun w hw => by
      simp only [List.mem_cons, List.not_mem_nil, or_false] at hw
      rcases hw with rfl | rfl | rfl
      · exact (hEx _).mpr hx
      · exact (hEx _).mpr hy
      · exact (hEx _).mpr hz
  have : [x, y, z].length = 3 := rfl
  omega
theorem used_off (hR : ∀ k, k ∈ S ↔ RT es tl u v p k) {x t : Nat} (hx : ¬ RP es tl u v p x) : Used es (trn tl u v S) es.length x t ↔ Used es tl es.length x t := by
  have h : ∀ j, At (es.getD j (0, 0)) x → j ∉ S := fun j hj hs => hx (((hR j).mp hs).end hj)
  constructor
  · rintro ⟨j, a, b, c⟩
    exact ⟨j, a, by rw [trn_out (h j c)] at b; exact b, c⟩
  · rintro ⟨j, a, b, c⟩
    exact ⟨j, a, by rw [trn_out (h j c)]; exact b, c⟩
theorem get_else (huv : u ≠ v) (hI : ∀ k ∈ S, InP tl u v k) {j t : Nat} (h1 : t ≠ u) (h2 : t ≠ v) : (trn tl u v S)[j]? = some (some t) ↔ tl[j]? = some (some t) := by
  by_cases h : j ∈ S
  · have hi := hI j h
    have hi' := (inp_trn huv hI j).mpr hi
    constructor
    · intro z
      rcases hi' with e | e
      · rw [z] at e; exact absurd (Option.some.inj (Option.some.inj e)) h1
      · rw [z] at e; exact absurd (Option.some.inj (Option.some.inj e)) h2
    · intro z
      rcases hi with e | e
      · rw [z] at e; exact absurd (Option.some.inj (Option.some.inj e)) h1
      · rw [z] at e; exact absurd (Option.some.inj (Option.some.inj e)) h2
  · rw [trn_out h]
theorem used_else (huv : u ≠ v) (hI : ∀ k ∈ S, InP tl u v k) {x t : Nat} (h1 : t ≠ u) (h2 : t ≠ v) : Used es (trn tl u v S) es.length x t ↔ Used es tl es.length x t :=
  ⟨fun ⟨j, a, b, c⟩ => ⟨j, a, (get_else huv hI h1 h2).mp b, c⟩, fun ⟨j, a, b, c⟩ => ⟨j, a, (get_else huv hI h1 h2).mpr b, c⟩⟩
theorem bare_trn (hI : ∀ k ∈ S, InP tl u v k) {j : Nat} : (trn tl u v S)[j]? = some none ↔ tl[j]? = some none := by
  by_cases h : j ∈ S
  · have hi := hI j h
    constructor
    · intro z
      rw [trn_in h hi] at z
      unfold swp at z
      cases Option.some.inj z
    · intro z
      rcases hi with e | e <;> rw [z] at e <;> cases Option.some.inj e
  · rw [trn_out h]
end
theorem filt_not (p : Nat → Bool) : ∀ l : List Nat, (l.filter p).length + (l.filter fun x => !p x).length = l.length
  | [] => rfl
  | x :: l => by
    have ih := filt_not p l
    simp only [List.filter_cons]
    cases p x <;> simp <;> omega
theorem filt_imp {p q : Nat → Bool} (h : ∀ x, p x = true → q x = true) : ∀ l : List Nat, (l.filter p).length ≤ (l.filter q).length
  | [] => Nat.le_refl _
  | x :: l => by
    have ih := filt_imp h l
    simp only [List.filter_cons]
    cases hp : p x with
    | true => rw [h x hp]; simp; exact ih
    | false =>
      cases q x <;> simp <;> omega
def ct (es : List (Nat × Nat)) (tl : List (Option Nat)) (x : Nat) : Nat := ((List.range es.length).filter fun j => atB (es.getD j (0, 0)) x && (tl.getD j none).isSome).length
theorem ct_le (es : List (Nat × Nat)) (tl : List (Option Nat)) (x : Nat) : ct es tl x ≤ dg es es.length x := filt_imp (fun j h => (Bool.and_eq_true_iff.mp h).1) _
theorem frees_ct (es : List (Nat × Nat)) (tl : List (Option Nat)) (x m : Nat) : m ≤ (frees es tl x m).length + ct es tl x := by
  have h1 := filt_not (fun t => @decide (¬ Used es tl es.length x t) (Classical.propDecidable _)) (List.range m)
  rw [List.length_range] at h1
  have h2 := sub_len (a := (List.range m).filter fun t => !(@decide (¬ Used es tl es.length x t) (Classical.propDecidable _))) (b := ((List.range es.length).filter fun j => atB (es.getD j (0, 0)) x && (tl.getD j none).isSome).map fun j => (tl.getD j none).getD 0) (List.nodup_range.filter _) fun t ht => by
    obtain ⟨_, h2⟩ := List.mem_filter.mp ht
    have hu : Used es tl es.length x t := Classical.byContradiction fun z => by
      rw [@decide_eq_true _ (Classical.propDecidable _) z] at h2
      cases h2
    obtain ⟨j, a, b, c⟩ := hu
    refine List.mem_map.mpr ⟨j, List.mem_filter.mpr ⟨List.mem_range.mpr a, ?_⟩, ?_⟩
    · rw [Bool.and_eq_true, show tl.getD j none = some t by rw [List.getD_eq_getElem?_getD, b]; rfl]
      exact ⟨atB_iff.mpr c, rfl⟩
    · rw [List.getD_eq_getElem?_getD, b]
      rfl
  rw [List.length_map] at h2
  unfold ct frees
  omega
end My
set_option Elab.async false
set_option linter.all false
set_option maxRecDepth 100000
set_option maxHeartbeats 4000000
namespace My
open PySem L2
inductive Stp where
  | turn (p u v : Nat)
  | tint (k t : Nat)
  | bare (k : Nat)
def stV : Stp → List V
  | .turn p u v => [.str "turn", .int (p : Int), .int (u : Int), .int (v : Int)]
  | .tint k t => [.str "tint", .int (k : Int), .int (t : Int)]
  | .bare k => [.str "bare", .int (k : Int)]
theorem stV_atom (s : Stp) : ∀ v ∈ stV s, Atom v := by
  intro v hv
  cases s <;> simp only [stV, List.mem_cons, List.not_mem_nil, or_false] at hv
  · rcases hv with rfl | rfl | rfl | rfl <;> trivial
  · rcases hv with rfl | rfl | rfl <;> trivial
  · rcases hv with rfl | rfl <;> trivial
def StOk (n L m : Nat) : Stp → Prop
  | .turn p u v => p < n ∧ u < m ∧ v < m ∧ u ≠ v
  | .tint k t => k < L ∧ t < m
  | .bare k => k < L
def Did (es : List (Nat × Nat)) (tl : List (Option Nat)) : Stp → List (Option Nat) → Prop
  | .turn p u v, r => ∃ S : List Nat, S.Pairwise (· < ·) ∧ (∀ k, k ∈ S ↔ RT es tl u v p k) ∧ r = trn tl u v S
  | .tint k t, r => r = tl.set k (some t)
  | .bare k, r => r = tl.set k none
theorem Did.len {es : List (Nat × Nat)} {tl r : List (Option Nat)} {s : Stp} (h : Did es tl s r) : r.length = tl.length := by
  cases s with
  | turn p u v => obtain ⟨S, _, _, rfl⟩ := h; exact trn_len _ _ _ _
  | tint k t => rw [show r = tl.set k (some t) from h, List.length_set]
  | bare k => rw [show r = tl.set k none from h, List.length_set]
theorem Did.uniq {es : List (Nat × Nat)} {tl r r' : List (Option Nat)} {s : Stp} (h : Did es tl s r) (h' : Did es tl s r') : r = r' := by
  cases s with
  | turn p u v =>
    obtain ⟨S, a, b, rfl⟩ := h
    obtain ⟨S', a', b', rfl⟩ := h'
    rw [rising_ext a a' fun x => by rw [b x, b' x]]
  | tint k t => exact (show r = _ from h).trans (show r' = _ from h').symm
  | bare k => exact (show r = _ from h).trans (show r' = _ from h').symm
inductive Wk (es : List (Nat × Nat)) (n m : Nat) : List Stp → List (Option Nat) → List (Option Nat) → Prop
  | nil {tl : List (Option Nat)} : Wk es n m [] tl tl
  | cons {s : Stp} {sl : List Stp} {tl t1 t2 : List (Option Nat)} : StOk n es.length m s → Did es tl s t1 → CleanTo es t1 es.length → Wk es n m sl t1 t2 → Wk es n m (s :: sl) tl t2
structure Res (es : List (Nat × Nat)) (tl : List (Option Nat)) (k m n mv : Nat) (sl : List Stp) : Prop where
  ex : ∃ tE, Wk es n m sl tl tE ∧ tE.length = es.length ∧ CleanTo es tE es.length ∧ (∃ t, tE[k]? = some (some t)) ∧ (∀ j, j ≠ k → (tE[j]? = some none ↔ tl[j]? = some none)) ∧ ∃ l : List Nat, l.length ≤ mv ∧ ∀ j, j ≠ k → tl[j]? ≠ tE[j]? → j ∈ l
  few : sl.length ≤ 4
section
variable {es : List (Nat × Nat)} {tl : List (Option Nat)} {n m : Nat}
theorem used_bare {g x t : Nat} (h : Used es (tl.set g none) es.length x t) : Used es tl es.length x t ∧ ∃ j, j ≠ g ∧ j < es.length ∧ tl[j]? = some (some t) ∧ At (es.getD j (0, 0)) x := by
  obtain ⟨j, a, b, c⟩ := h
  rw [List.getElem?_set] at b
  by_cases e : g = j
  · subst e
    rw [if_pos rfl] at b
    split at b <;> cases b
  · rw [if_neg e] at b
    exact ⟨⟨j, a, b, c⟩, j, fun z => e z.symm, a, b, c⟩
theorem clean_bare {g : Nat} (hC : CleanTo es tl es.length) : CleanTo es (tl.set g none) es.length := by
  intro i j t hj hi h1 h2 p hp hq
  rw [List.getElem?_set] at h1 h2
  by_cases e1 : g = i
  · rw [if_pos e1] at h1
    split at h1 <;> cases h1
  · rw [if_neg e1] at h1
    by_cases e2 : g = j
    · rw [if_pos e2] at h2
      split at h2 <;> cases h2
    · rw [if_neg e2] at h2
      exact hC i j t hj hi h1 h2 p hp hq
theorem oth_two {e : Nat × Nat} {x y : Nat} (hx : At e x) (hy : At e y) : y = x ∨ y = oth e x := by
  unfold oth
  rcases hx with rfl | rfl
  · rw [if_pos rfl]
    exact hy
  · rcases hy with rfl | rfl
    · by_cases h : e.1 = e.2
      · exact .inl h
      · rw [if_neg h]; exact .inr rfl
    · exact .inl rfl
end
def ats (es : List (Nat × Nat)) (x : Nat) : List Nat := (List.range es.length).filter fun j => atB (es.getD j (0, 0)) x
theorem ats_mem {es : List (Nat × Nat)} {x j : Nat} : j ∈ ats es x ↔ j < es.length ∧ At (es.getD j (0, 0)) x := by
  unfold ats
  rw [List.mem_filter, List.mem_range, atB_iff]
theorem head_mem {l : List Nat} (h : 0 < l.length) : l.getD 0 0 ∈ l := by
  cases l with
  | nil => cases h
  | cons x l => exact .head _
end My
set_option Elab.async false
set_option linter.all false
set_option maxRecDepth 100000
set_option maxHeartbeats 4000000
namespace My
open PySem L2
section
variable {P : Program} {w : World} {K : PySem.W.Frag} {mg : Str → Option Value} {base : Heap}
abbrev sTu : Stmt := top 9
abbrev nTu : List Str := ["net", "tints", "point", "one", "other", "row", "tie"]
def spTu : Sp := fun vs H Q _ => ∃ (p r : Addr) (n : Nat) (q : Addr) (ts : List V) (es : List (Nat × Nat)) (tl : List (Option Nat)) (pt u v : Nat), vs = [.ref p, .ref r, .int (pt : Int), .int (u : Int), .int (v : Int)] ∧ NetZ H p n q ts es ∧ H r = some (.tup (tv tl)) ∧ tl.length = es.length ∧ es.length < 64 ∧
  ∀ H' t (S : List Nat), Same H H' → H' t = some (.tup (tv (trn tl u v S))) → S.Pairwise (· < ·) → (∀ k, k ∈ S ↔ RT es tl u v pt k) → Q (.ref t) H'
theorem scTu : FnScope nTu ["net", "tints", "point", "one", "other"] (defScope sTu) := ⟨rfl, rfl, rfl, by decide +kernel, rfl, by decide +kernel, by decide +kernel⟩
theorem ok_tu {f : Addr} {fd : FuncData} (F : Fun K "turned" "turned" sTu f fd) (T : Bi mg) (FC : FnE P w K mg base "chain" ["net", "tints", "point", "one", "other"] 2 spCh) : FnOk P w K mg base CX0 3 f fd ["net", "tints", "point", "one", "other"] spTu := by
  refine F.ok scTu (fun vs H Q E h => ?_) (fun cdv A outer s H vs Q E hr h => ?_)
  · obtain ⟨p, r, n, q, ts, es, tl, pt, u, v, rfl, _⟩ := h
    rfl
  · obtain ⟨p, r, n, qa, ts, es, tl, pt, u, v, rfl, N, hR, htl, h64, q⟩ := h
    refine ⟨_, pss_cons (ps_set (i := 5) scTu.nd rfl (Or.inl rfl) (pe_callTy call_list_of rfl T.list bList (pa_c (pv 1) pa_nil)))
      (pss_cons (ps_for PassesOwn.never rfl (pi_tup (pe_fc FC hr (pa_c (pv 0) (pa_c (pv 1) (pa_c (pv 2) (pa_c (pv 3) (pa_c (pv 4) pa_nil))))))) (pg_name (i := 6) scTu.nd rfl (Or.inl rfl))
        (pss_one (ps_asg (pe_ifExp (pt_cmpR op_eq (pe_ix ix_tup (pv 1) (pv 6) (fun _ _ => rfl)) (pv 3) (nomark _)) (pv 4) (pv 3)) (pg_sub (pv 5) (pv 6) set_listN))))
      (pss_one (ps_ret (pe_callTy call_tuple_ofS rfl T.tuple bTuple (pa_c (pv 5) pa_nil))))), ?_⟩
    refine ⟨_, rfl, r, _, rfl, .inr (SqT.of hR), fun ro hro => ?_⟩
    have s0 : Same H (upd H ro (.lst (tv tl))) := same_new hro
    refine ⟨_, rfl, _, rfl, _, rfl, _, rfl, _, rfl, p, r, n, qa, ts, es, tl, pt, u, v, rfl, N.same s0, s0 _ _ hR, htl, h64, fun H1 t S s1 ht hS hRT => ?_⟩
    have hS1 : Same H H1 := Same.trans s0 s1
    have hro1 : H1 ro = some (.lst (tv tl)) := s1 _ _ upd_same
    have htr : t ≠ ro := fun z => by rw [z, hro1] at ht; cases ht
    refine ⟨t, rfl, ⟨_, SqT.of ht⟩, for_tup (K := K) (a := t) (xs := nl S) (fun i σ G => ∃ v6, σ = [some (.ref p), some (.ref r), some (.int (pt : Int)), some (.int (u : Int)), some (.int (v : Int)), some (.ref ro), v6] ∧ Same H G ∧ G t = some (.tup (nl S)) ∧ G ro = some (.lst (tv (trn tl u v (S.take i)))))
      ⟨_, rfl, hS1, ht, hro1⟩ (fun i σ G _ ⟨_, _, _, z, _⟩ => SqT.of z) (fun i y σ G hy ⟨v6, e, SG, gt, gr⟩ => ?_) (fun σ G ⟨v6, e, SG, gt, gr⟩ => ?_)⟩
    · subst e
      obtain ⟨k, hk, rfl⟩ : ∃ k, S[i]? = some k ∧ y = V.int (k : Int) := by
        unfold nl at hy
        rw [List.getElem?_map] at hy
        cases z : S[i]? with
        | none => rw [z] at hy; cases hy
        | some k => rw [z] at hy; cases hy; exact ⟨k, rfl, rfl⟩
      have hke : k < es.length := ((hRT k).mp (List.mem_of_getElem? hk)).1
      have hkt : k < tl.length := by omega
      have hgk := tv_get (List.getElem?_eq_getElem hkt)
      have hgd : tl.getD k none = tl[k] := by rw [List.getD_eq_getElem?_getD, List.getElem?_eq_getElem hkt]; rfl
      have fin : ∀ o, o = swp tl u v k → ∃ w6 : Option V, ([some (.ref p), some (.ref r), some (.int (pt : Int)), some (.int (u : Int)), some (.int (v : Int)), some (.ref ro), some (.int (k : Int))] : St) = [some (.ref p), some (.ref r), some (.int (pt : Int)), some (.int (u : Int)), some (.int (v : Int)), some (.ref ro), w6] ∧ Same H (upd G ro (.lst ((tv (trn tl u v (S.take i))).set k (tN o)))) ∧ (upd G ro (.lst ((tv (trn tl u v (S.take i))).set k (tN o)))) t = some (.tup (nl S)) ∧ (upd G ro (.lst ((tv (trn tl u v (S.take i))).set k (tN o)))) ro = some (.lst (tv (trn tl u v (S.take (i + 1))))) := fun o ho => by
        subst ho
        refine ⟨_, rfl, SG.wr hro, by rw [upd_ne htr]; exact gt, ?_⟩
        rw [upd_same, tv_set, List.take_add_one, hk]
        show _ = some (HO.lst (tv (trn tl u v (S.take i ++ [k]))))
        rw [trn_snoc]
      have hlk : k < (tv (trn tl u v (S.take i))).length := by rw [tv_len, trn_len]; exact hkt
      refine ⟨_, rfl, _, rfl, r, _, _, _, rfl, rfl, SqT.of (SG _ _ hR), atI_nat hgk, _, rfl, (by cases tl[k] <;> rfl), _, rfl, ?_⟩
      refine ite2 (fun hz => ?_) (fun hz => ?_)
      · refine ⟨_, rfl, _, rfl, _, rfl, ro, _, k, rfl, rfl, gr, hlk, fin (some v) ?_⟩
        unfold swp
        rw [hgd, if_pos]
        cases ho : tl[k] with
        | none => rw [ho] at hz; cases hz
        | some t =>
          rw [ho] at hz
          have := V.int.inj (of_decide_eq_true hz)
          rw [show t = u by omega]
      · refine ⟨_, rfl, _, rfl, _, rfl, ro, _, k, rfl, rfl, gr, hlk, fin (some u) ?_⟩
        unfold swp
        rw [hgd, if_neg]
        intro ho
        rw [ho] at hz
        exact hz (decide_eq_true rfl)
    · subst e
      rw [nl_len, List.take_length] at gr
      exact ⟨_, rfl, ro, _, rfl, .inl gr, fun t2 H3 s3 ht2 => q H3 t2 S (Same.trans SG s3) ht2 hS hRT⟩
end
end My
set_option Elab.async false
set_option linter.all false
set_option maxRecDepth 100000
set_option maxHeartbeats 4000000
namespace My
open PySem L2
def ShSt (H : Hp) (l : Addr) (sl : List Stp) : Prop := ∃ tr : List (Addr × Stp), H l = some (.lst (tr.map fun x => V.ref x.1)) ∧ tr.map (·.2) = sl ∧ ∀ x ∈ tr, H x.1 = some (.tup (stV x.2))
theorem ShSt.same {H H' : Hp} {l : Addr} {sl : List Stp} (h : ShSt H l sl) (s : Same H H') : ShSt H' l sl := let ⟨tr, a, b, c⟩ := h; ⟨tr, s _ _ a, b, fun x hx => s _ _ (c x hx)⟩
def atsTo (es : List (Nat × Nat)) (x i : Nat) : List Nat := (List.range i).filter fun j => atB (es.getD j (0, 0)) x
theorem atsTo_in {es : List (Nat × Nat)} {x i : Nat} (h : At (es.getD i (0, 0)) x) : atsTo es x (i + 1) = atsTo es x i ++ [i] := by
  unfold atsTo
  rw [List.range_succ, List.filter_append, List.filter_cons, if_pos (atB_iff.mpr h)]
  rfl
theorem atsTo_out {es : List (Nat × Nat)} {x i : Nat} (h : ¬ At (es.getD i (0, 0)) x) : atsTo es x (i + 1) = atsTo es x i := by
  unfold atsTo
  rw [List.range_succ, List.filter_append, List.filter_cons, if_neg (fun z => h (atB_iff.mp z))]
  simp
theorem atsTo_len (es : List (Nat × Nat)) (x i : Nat) : (atsTo es x i).length ≤ i := by
  unfold atsTo
  exact Nat.le_trans (List.length_filter_le _ _) (by rw [List.length_range]; exact Nat.le_refl _)
section
variable {P : Program} {w : World} {K : PySem.W.Frag} {mg : Str → Option Value} {base : Heap}
abbrev sAt : Stmt := top 3
abbrev atScope : Scope := compScope (retE (stOf 3 0))
def spAt : Sp := fun vs H Q _ => ∃ (p : Addr) (n : Nat) (q : Addr) (ts : List V) (es : List (Nat × Nat)) (x : Nat), vs = [.ref p, .int (x : Int)] ∧ NetZ H p n q ts es ∧ ∀ H' t, Same H H' → H' t = some (.tup (nl (ats es x))) → Q (.ref t) H'
theorem ndAt : (["tie", "ends", "point"] : List Str).Nodup := by decide +kernel
theorem scAt : FnScope ["net", "point"] ["net", "point"] (defScope sAt) := ⟨rfl, rfl, rfl, by decide +kernel, rfl, by decide +kernel, by decide +kernel⟩
theorem blkAt {f : Addr} {cdv : Value} {A : Around} {outer : List Env} {s : Shared} {H : Hp} {E : XK} :
    Blk (cxOf CX0 P w K mg base ["net", "point"] "ties_at" (defScope sAt) f cdv A outer s H E).nox atScope [("point", s.heap.objs.size + 1)] ["tie", "ends", "point"] [none, none, some 1] := by
  refine ⟨rfl, rfl, by decide +kernel, by decide +kernel, fun p hp => ?_, fun y hy e => ?_, ⟨rfl, rfl, rfl⟩, trivial⟩
  · rw [List.mem_singleton.mp hp]
    rfl
  · have hy' : y ∈ [((PySem.Str.ofString ".0" : Str), NameKind.local), (PySem.Str.ofString "tie", .local), (PySem.Str.ofString "ends", .local), (PySem.Str.ofString "point", .free)] := hy
    simp only [List.mem_cons, List.not_mem_nil, or_false] at hy'
    rcases hy' with rfl | rfl | rfl | rfl <;> first | rfl | cases e
theorem ok_at {f : Addr} {fd : FuncData} (F : Fun K "ties_at" "ties_at" sAt f fd) (T : Bi mg) (hen : mg "enumerate" = none) : FnOk P w K mg base CX0 1 f fd ["net", "point"] spAt := by
  refine F.ok scAt (fun vs H Q E h => ?_) (fun cdv A outer s H vs Q E hr h => ?_)
  · obtain ⟨p, n, q, ts, es, x, rfl, _⟩ := h
    rfl
  · obtain ⟨p, n, qa, ts, es, x, rfl, N, q⟩ := h
    refine ⟨_, pss_one (ps_ret (pe_callTy call_tuple_ofS rfl T.tuple bTuple (pa_c (pe_lcE blkAt rfl rfl hen (pa_c (pe_ix ix_tup (pv 0) pe_int (fun _ _ => rfl)) pa_nil) (monoA_cons (mono_ixT (mono_var 0) (mono_c _)) monoA_nil) rfl
      (fun C fp s H => pg_tupK (K := K) (n := 2) rfl rfl (@pgs_cons _ _ _ _ _ (pg_name (i := 0) ndAt rfl (Or.inl rfl) (hf := Or.inr rfl)) (@pgs_cons _ _ _ _ _ (pg_name (i := 1) ndAt rfl (Or.inl rfl) (hf := Or.inr rfl)) pgs_nil rfl) rfl) rfl rfl)
      (fun C fp s H => pts_one (pt_cmpR (op_inK rfl) (pv 2) (pv 1) rfl)) (fun C fp s H => pv 0)) pa_nil))), ?_⟩
    refine ⟨_, rfl, p, _, _, _, rfl, rfl, SqT.of N.e1, rfl, qa, ts, rfl, SqT.of N.e2, (by have := N.len; have := N.l200; omega), fun i ys σ H' => Same H H' ∧ ys = nl (atsTo es x i) ∧ ∃ v0 v1, σ = [v0, v1, some (.int (x : Int))], ⟨Same.refl H, rfl, none, none, rfl⟩, fun i ys σ H' hi ⟨e1, e2, _⟩ => ?_, fun i y ys σ H' hx ⟨e1, e2, v0, v1, e3⟩ Tt H2 s2 hT => ?_, fun ys σ H' ⟨e1, e2, _⟩ l H2 s2 hl => ?_⟩
    · subst e2
      exact ⟨SqT.of (e1 _ _ N.e2), by rw [nl_len]; exact atsTo_len _ _ _⟩
    · subst e2 e3
      obtain ⟨a, rfl, ha⟩ := N.tie i y hx
      have ha2 := s2 _ _ (e1 _ _ ha)
      refine ⟨Tt, _, rfl, SqT.of hT, rfl, _, _, rfl, _, _, rfl, rfl, ?_⟩
      refine ⟨_, rfl, _, rfl, a, _, rfl, .inr (SqT.of ha2), rfl, rfl, _, rfl, ?_⟩
      refine ite2 (fun hh => ⟨_, rfl, Same.trans e1 s2, ?_, _, _, rfl⟩) (fun hh => ⟨Same.trans e1 s2, ?_, _, _, rfl⟩)
      · rw [atsTo_in ((in_at x (es.getD i (0, 0))).mp hh), ← nl_app]
      · rw [atsTo_out fun z => hh ((in_at x (es.getD i (0, 0))).mpr z)]
    · subst e2
      refine ⟨l, _, rfl, .inl hl, fun t H3 s3 ht => q H3 t (Same.trans (Same.trans e1 s2) s3) ?_⟩
      rw [ht, N.len]
      rfl
end
end My
set_option Elab.async false
set_option linter.all false
set_option maxRecDepth 100000
set_option maxHeartbeats 4000000
namespace My
open PySem L2
def PlainN (es : List (Nat × Nat)) : Prop := ∀ i j, i < es.length → j < es.length → i ≠ j → ∀ x, At (es.getD i (0, 0)) x → At (es.getD j (0, 0)) x → oth (es.getD i (0, 0)) x ≠ oth (es.getD j (0, 0)) x
abbrev tip (es : List (Nat × Nat)) (hub j : Nat) : Nat := oth (es.getD j (0, 0)) hub
def hnd (tl : List (Option Nat)) (last : Nat) : List Nat → List Stp
  | [] => []
  | [j] => [.tint j last]
  | j :: j' :: r => .bare j' :: .tint j ((tl.getD j' none).getD 0) :: hnd tl last (j' :: r)
theorem hnd_len (tl : List (Option Nat)) (last : Nat) : ∀ F : List Nat, (hnd tl last F).length ≤ 2 * F.length
  | [] => Nat.le_refl _
  | [j] => by show 1 ≤ 2; omega
  | j :: j' :: r => by
    have := hnd_len tl last (j' :: r)
    show (hnd tl last (j' :: r)).length + 1 + 1 ≤ 2 * (r.length + 1 + 1)
    rw [List.length_cons] at this
    omega
theorem clean_two {es : List (Nat × Nat)} {tl : List (Option Nat)} {i j t x : Nat} (hC : CleanTo es tl es.length) (hi : i < es.length) (hj : j < es.length) (h1 : tl[i]? = some (some t)) (h2 : tl[j]? = some (some t)) (a1 : At (es.getD i (0, 0)) x) (a2 : At (es.getD j (0, 0)) x) : i = j := by
  rcases Nat.lt_trichotomy i j with z | z | z
  · exact absurd a1 (hC j i t z hj h2 h1 x a2)
  · exact z
  · exact absurd a2 (hC i j t z hi h1 h2 x a1)
theorem tip_ne {es : List (Nat × Nat)} {n hub j : Nat} (ok : ∀ e ∈ es, e.1 < n ∧ e.2 < n ∧ e.1 ≠ e.2) (hj : j < es.length) (ha : At (es.getD j (0, 0)) hub) : tip es hub j ≠ hub := by
  have := (ok _ (getD_mem hj)).2.2
  unfold tip oth
  rcases ha with e | e
  · rw [if_pos e.symm]; omega
  · rw [if_neg (by omega)]; omega
theorem tip_lt {es : List (Nat × Nat)} {n hub j : Nat} (ok : ∀ e ∈ es, e.1 < n ∧ e.2 < n ∧ e.1 ≠ e.2) (hj : j < es.length) : tip es hub j < n := by
  have := ok _ (getD_mem hj)
  rcases oth_at (es.getD j (0, 0)) hub with e | e <;> (unfold tip; omega)
theorem ends_free {es : List (Nat × Nat)} {tl : List (Option Nat)} {hub j t : Nat} (ha : At (es.getD j (0, 0)) hub) (h1 : ¬ Used es tl es.length hub t) (h2 : ¬ Used es tl es.length (tip es hub j) t) : ¬ Used es tl es.length (es.getD j (0, 0)).1 t ∧ ¬ Used es tl es.length (es.getD j (0, 0)).2 t := by
  constructor
  · rcases oth_two ha (.inl rfl : At (es.getD j (0, 0)) (es.getD j (0, 0)).1) with e | e
    · rw [e]; exact h1
    · rw [e]; exact h2
  · rcases oth_two ha (.inr rfl : At (es.getD j (0, 0)) (es.getD j (0, 0)).2) with e | e
    · rw [e]; exact h1
    · rw [e]; exact h2
theorem used_tint' {es : List (Nat × Nat)} {tl : List (Option Nat)} {k x t t' : Nat} (h : Used es (tl.set k (some t')) es.length x t) : (t = t' ∧ At (es.getD k (0, 0)) x) ∨ Used es tl es.length x t := by
  obtain ⟨j, a, b, c⟩ := h
  rw [List.getElem?_set] at b
  by_cases e : k = j
  · rw [if_pos e] at b
    split at b
    · subst e
      exact .inl ⟨(Option.some.inj (Option.some.inj b)).symm, c⟩
    · cases b
  · rw [if_neg e] at b
    exact .inr ⟨j, a, b, c⟩
theorem hnd_ok {es : List (Nat × Nat)} {tl : List (Option Nat)} {n m hub last : Nat} (ok : ∀ e ∈ es, e.1 < n ∧ e.2 < n ∧ e.1 ≠ e.2) (pl : PlainN es) (hm : last < m) : ∀ (r : List Nat) (j : Nat) (cur : List (Option Nat)), cur.length = es.length → CleanTo es cur es.length → cur[j]? = some none → (j :: r).Nodup →
    (∀ i ∈ j :: r, i < es.length ∧ At (es.getD i (0, 0)) hub) → (∀ i ∈ r, cur[i]? = tl[i]?) → (∀ i a b, (j :: r)[i]? = some a → (j :: r)[i + 1]? = some b → ∃ t, t < m ∧ cur[b]? = some (some t) ∧ ¬ Used es cur es.length (tip es hub a) t) →
    (∀ a, (j :: r)[r.length]? = some a → ¬ Used es cur es.length (tip es hub a) last) → ¬ Used es cur es.length hub last →
    ∃ res, Wk es n m (hnd tl last (j :: r)) cur res ∧ res.length = es.length ∧ CleanTo es res es.length ∧ (∀ i, i ∉ j :: r → res[i]? = cur[i]?) ∧ ∀ i ∈ j :: r, ∃ t, res[i]? = some (some t)
  | [], j, cur, hl, hC, hb, nd, hat, hc, hs, hla, hh => by
    obtain ⟨hj, ha⟩ := hat j (.head _)
    obtain ⟨n1, n2⟩ := ends_free ha hh (hla j rfl)
    have c1 := clean_set hC hl hj n1 n2
    refine ⟨cur.set j (some last), .cons (s := .tint j last) ⟨hj, hm⟩ rfl c1 .nil, by rw [List.length_set]; exact hl, c1, fun i hi => ?_, fun i hi => ?_⟩
    · rw [List.getElem?_set, if_neg fun z : j = i => hi (z ▸ List.mem_cons_self)]
    · rw [List.mem_singleton.mp hi, List.getElem?_set, if_pos rfl, if_pos (by omega)]
      exact ⟨_, rfl⟩
  | j' :: r, j, cur, hl, hC, hb, nd, hat, hc, hs, hla, hh => by
    obtain ⟨hj, ha⟩ := hat j (.head _)
    obtain ⟨hj', ha'⟩ := hat j' (.tail _ (.head _))
    obtain ⟨nj, nd'⟩ := List.nodup_cons.mp nd
    obtain ⟨nj', _⟩ := List.nodup_cons.mp nd'
    have hjj : j ≠ j' := fun z => nj (z ▸ List.mem_cons_self)
    obtain ⟨t, tm, ct, ft⟩ := hs 0 j j' rfl rfl
    have c1 : CleanTo es (cur.set j' none) es.length := clean_bare hC
    have l1 : (cur.set j' none).length = es.length := by rw [List.length_set]; exact hl
    have nh : ¬ Used es (cur.set j' none) es.length hub t := fun z => by
      obtain ⟨_, i, ine, il, it, ia⟩ := used_bare z
      exact ine (clean_two hC il hj' it ct ia ha')
    have nt : ¬ Used es (cur.set j' none) es.length (tip es hub j) t := fun z => ft (used_bare z).1
    obtain ⟨n1, n2⟩ := ends_free ha nh nt
    have c2 := clean_set c1 l1 hj n1 n2
    have l2 : ((cur.set j' none).set j (some t)).length = es.length := by rw [List.length_set]; exact l1
    have ev : (tl.getD j' none).getD 0 = t := by
      rw [List.getD_eq_getElem?_getD, ← hc j' (.head _), ct]
      rfl
    have g2 : ∀ i, i ≠ j → i ≠ j' → ((cur.set j' none).set j (some t))[i]? = cur[i]? := fun i h1 h2 => by
      rw [List.getElem?_set, if_neg fun z => h1 z.symm, List.getElem?_set, if_neg fun z => h2 z.symm]
    have off : ∀ a ∈ j' :: r, ∀ t', ¬ Used es cur es.length (tip es hub a) t' → ¬ Used es ((cur.set j' none).set j (some t)) es.length (tip es hub a) t' := fun a hin t' hf z => by
      obtain ⟨hal, haa⟩ := hat a (.tail _ hin)
      have naj : a ≠ j := fun z => nj (z ▸ hin)
      rcases used_tint' z with ⟨_, hx⟩ | z
      · rcases oth_two ha hx with e | e
        · exact tip_ne ok hal haa e
        · exact pl a j hal hj naj hub haa ha e
      · exact hf (used_bare z).1
    obtain ⟨res, w1, w2, w3, w4, w5⟩ := hnd_ok (tl := tl) ok pl hm r j' ((cur.set j' none).set j (some t)) l2 c2
      (by rw [List.getElem?_set, if_neg hjj, List.getElem?_set, if_pos rfl, if_pos (by omega)]) nd' (fun i hi => hat i (.tail _ hi))
      (fun i hi => by rw [g2 i (fun z => nj (z ▸ .tail _ hi)) (fun z => nj' (z ▸ hi))]; exact hc i (.tail _ hi))
      (fun i a b h1 h2 => by
        obtain ⟨t', q1, q2, q3⟩ := hs (i + 1) a b h1 h2
        have hb' : b ∈ r := List.mem_of_getElem? (show r[i]? = some b from h2)
        exact ⟨t', q1, by rw [g2 b (fun z => nj (z ▸ .tail _ hb')) (fun z => nj' (z ▸ hb'))]; exact q2, off a (List.mem_of_getElem? h1) t' q3⟩)
      (fun a h1 => off a (List.mem_of_getElem? h1) last (hla a h1))
      (fun z => by
        rcases used_tint' z with ⟨e, _⟩ | z
        · exact hh ⟨j', hj', by rw [e]; exact ct, ha'⟩
        · exact hh (used_bare z).1)
    refine ⟨res, ?_, w2, w3, fun i hi => ?_, fun i hi => ?_⟩
    · show Wk es n m (.bare j' :: .tint j ((tl.getD j' none).getD 0) :: hnd tl last (j' :: r)) cur res
      rw [ev]
      exact .cons (s := .bare j') hj' rfl c1 (.cons (s := .tint j t) ⟨hj, tm⟩ rfl c2 w1)
    · rw [w4 i fun z => hi (.tail _ z)]
      exact g2 i (fun z => hi (z ▸ List.mem_cons_self)) (fun z => hi (z ▸ .tail _ (.head _)))
    · rcases List.mem_cons.mp hi with rfl | z
      · rw [w4 _ nj, List.getElem?_set, if_pos rfl, if_pos (by omega)]
        exact ⟨_, rfl⟩
      · exact w5 i z
structure FanOk (es : List (Nat × Nat)) (tl : List (Option Nat)) (hub k m : Nat) (F : List Nat) : Prop where
  hd : F[0]? = some k
  nd : F.Nodup
  at' : ∀ j ∈ F, j < es.length ∧ At (es.getD j (0, 0)) hub
  seq : ∀ i a b, F[i]? = some a → F[i + 1]? = some b → ∃ t, t < m ∧ tl[b]? = some (some t) ∧ ¬ Used es tl es.length (tip es hub a) t
def lst (F : List Nat) : Nat := F.getD (F.length - 1) 0
theorem lst_get {F : List Nat} (h : 0 < F.length) : F[F.length - 1]? = some (lst F) := by
  unfold lst
  rw [List.getD_eq_getElem?_getD, List.getElem?_eq_getElem (by omega)]
  rfl
section
variable {es : List (Nat × Nat)} {tl : List (Option Nat)} {hub k m n : Nat} {F : List Nat}
theorem FanOk.pos (h : FanOk es tl hub k m F) : 0 < F.length := by
  have := h.hd
  exact (List.getElem?_eq_some_iff.mp this).1
theorem FanOk.lst_in (h : FanOk es tl hub k m F) : lst F ∈ F := List.mem_of_getElem? (lst_get h.pos)
theorem FanOk.start (hk : k < es.length) (ha : At (es.getD k (0, 0)) hub) : FanOk es tl hub k m [k] :=
  ⟨rfl, List.nodup_cons.mpr ⟨List.not_mem_nil, List.nodup_nil⟩, fun j hj => by rw [List.mem_singleton.mp hj]; exact ⟨hk, ha⟩, fun i a b _ h2 => by cases i <;> cases h2⟩
theorem FanOk.add (h : FanOk es tl hub k m F) {x t : Nat} (hx : x < es.length) (ha : At (es.getD x (0, 0)) hub) (ht : tl[x]? = some (some t)) (tm : t < m) (hf : ¬ Used es tl es.length (tip es hub (lst F)) t) (hn : x ∉ F) : FanOk es tl hub k m (F ++ [x]) := by
  have hp := h.pos
  refine ⟨by rw [List.getElem?_append_left hp]; exact h.hd, ?_, fun j hj => ?_, fun i a b h1 h2 => ?_⟩
  · rw [List.nodup_append]
    refine ⟨h.nd, List.nodup_cons.mpr ⟨List.not_mem_nil, List.nodup_nil⟩, fun a ha b hb z => ?_⟩
    rw [List.mem_singleton.mp hb] at z
    exact hn (z ▸ ha)
  · rcases List.mem_append.mp hj with z | z
    · exact h.at' j z
    · rw [List.mem_singleton.mp z]
      exact ⟨hx, ha⟩
  · by_cases hi : i + 1 < F.length
    · rw [List.getElem?_append_left hi] at h2
      rw [List.getElem?_append_left (by omega)] at h1
      exact h.seq i a b h1 h2
    · have hi2 : i + 1 = F.length := by
        have := (List.getElem?_eq_some_iff.mp h2).1
        rw [List.length_append, List.length_singleton] at this
        omega
      rw [hi2, List.getElem?_append_right (Nat.le_refl _), Nat.sub_self] at h2
      cases h2
      rw [List.getElem?_append_left (by omega)] at h1
      have e := lst_get hp
      rw [show F.length - 1 = i by omega, h1] at e
      cases e
      exact ⟨t, tm, ht, hf⟩
theorem FanOk.tips (h : FanOk es tl hub k m F) (pl : PlainN es) (ok : ∀ e ∈ es, e.1 < n ∧ e.2 < n ∧ e.1 ≠ e.2) : F.length ≤ n := by
  have nd : (F.map (tip es hub)).Nodup := by
    rw [List.nodup_iff_pairwise_ne, List.pairwise_map]
    refine List.Pairwise.imp_of_mem (fun {a b} ha hb hab => ?_) (List.nodup_iff_pairwise_ne.mp h.nd)
    exact pl a b (h.at' a ha).1 (h.at' b hb).1 hab hub (h.at' a ha).2 (h.at' b hb).2
  have := sub_len (b := List.range n) nd fun x hx => by
    obtain ⟨j, hj, rfl⟩ := List.mem_map.mp hx
    exact List.mem_range.mpr (tip_lt ok (h.at' j hj).1)
  rw [List.length_map, List.length_range] at this
  exact this
end
end My
set_option Elab.async false
set_option linter.all false
set_option maxRecDepth 100000
set_option maxHeartbeats 4000000
namespace My
open PySem L2
noncomputable def onw (es : List (Nat × Nat)) (tl : List (Option Nat)) (hub m : Nat) (F : List Nat) : List Nat :=
  (ats es hub).filter fun x => (match tl.getD x none with | none => false | some t => decide (t ∈ frees es tl (tip es hub (lst F)) m)) && decide (x ∉ F)
theorem onw_mem {es : List (Nat × Nat)} {tl : List (Option Nat)} {hub m x : Nat} {F : List Nat} (hl : tl.length = es.length) : x ∈ onw es tl hub m F ↔ x < es.length ∧ At (es.getD x (0, 0)) hub ∧ (∃ t, tl[x]? = some (some t) ∧ t < m ∧ ¬ Used es tl es.length (tip es hub (lst F)) t) ∧ x ∉ F := by
  unfold onw
  rw [List.mem_filter, ats_mem, Bool.and_eq_true, decide_eq_true_eq]
  constructor
  · rintro ⟨⟨h1, h2⟩, h3, h4⟩
    refine ⟨h1, h2, ?_, h4⟩
    have e := List.getElem?_eq_getElem (show x < tl.length by omega)
    rw [List.getD_eq_getElem?_getD, e] at h3
    rw [e]
    cases q : tl[x]'(by omega) with
    | none => rw [q] at h3; cases h3
    | some t =>
      rw [q] at h3
      have := frees_mem.mp (of_decide_eq_true h3)
      exact ⟨t, rfl, this⟩
  · rintro ⟨h1, h2, ⟨t, h3, h4⟩, h5⟩
    refine ⟨⟨h1, h2⟩, ?_, h5⟩
    rw [List.getD_eq_getElem?_getD, h3]
    exact decide_eq_true (frees_mem.mpr h4)
noncomputable def fanF (es : List (Nat × Nat)) (tl : List (Option Nat)) (hub m : Nat) : Nat → List Nat → List Nat
  | 0, F => F
  | d + 1, F => if 0 < (both es tl hub (tip es hub (lst F)) m).length then F else match onw es tl hub m F with
    | [] => F
    | x :: _ => fanF es tl hub m d (F ++ [x])
section
variable {es : List (Nat × Nat)} {tl : List (Option Nat)} {hub k m n : Nat} {F : List Nat}
theorem FanOk.le (h : FanOk es tl hub k m F) : F.length ≤ es.length := by
  have := sub_len (b := List.range es.length) h.nd fun x hx => List.mem_range.mpr (h.at' x hx).1
  rw [List.length_range] at this
  exact this
theorem FanOk.next (h : FanOk es tl hub k m F) (hl : tl.length = es.length) {x : Nat} {r : List Nat} (e : onw es tl hub m F = x :: r) : FanOk es tl hub k m (F ++ [x]) := by
  obtain ⟨h1, h2, ⟨t, h3, h4, h5⟩, h6⟩ := (onw_mem hl).mp (by rw [e]; exact List.mem_cons_self : x ∈ onw es tl hub m F)
  exact h.add h1 h2 h3 h4 h5 h6
theorem fan_ok (hl : tl.length = es.length) : ∀ (d : Nat) (F : List Nat), FanOk es tl hub k m F → es.length ≤ F.length + d → FanOk es tl hub k m (fanF es tl hub m d F) ∧ (0 < (both es tl hub (tip es hub (lst (fanF es tl hub m d F))) m).length ∨ onw es tl hub m (fanF es tl hub m d F) = [])
  | 0, F, h, hd => by
    refine ⟨h, .inr ?_⟩
    cases q : onw es tl hub m F with
    | nil => exact q
    | cons x r =>
      have := (h.next hl q).le
      rw [List.length_append, List.length_singleton] at this
      omega
  | d + 1, F, h, hd => by
    unfold fanF
    split
    · rename_i z
      exact ⟨h, .inl z⟩
    · split
      · rename_i q
        exact ⟨h, .inr q⟩
      · rename_i x r q
        refine fan_ok hl d (F ++ [x]) (h.next hl q) ?_
        rw [List.length_append, List.length_singleton]
        omega
end
noncomputable def chS (es : List (Nat × Nat)) (tl : List (Option Nat)) (u v p : Nat) : List Nat := (List.range es.length).filter fun k => @decide (RT es tl u v p k) (Classical.propDecidable _)
theorem chS_rise (es : List (Nat × Nat)) (tl : List (Option Nat)) (u v p : Nat) : (chS es tl u v p).Pairwise (· < ·) := List.Pairwise.filter _ List.pairwise_lt_range
theorem chS_mem {es : List (Nat × Nat)} {tl : List (Option Nat)} {u v p k : Nat} : k ∈ chS es tl u v p ↔ RT es tl u v p k := by
  unfold chS
  rw [List.mem_filter, List.mem_range]
  exact ⟨fun z => @of_decide_eq_true _ (Classical.propDecidable _) z.2, fun z => ⟨z.1, @decide_eq_true _ (Classical.propDecidable _) z⟩⟩
theorem chS_eq {es : List (Nat × Nat)} {tl : List (Option Nat)} {u v p : Nat} {S : List Nat} (h : S.Pairwise (· < ·)) (hR : ∀ k, k ∈ S ↔ RT es tl u v p k) : S = chS es tl u v p := rising_ext h (chS_rise _ _ _ _ _) fun x => by rw [hR x, chS_mem]
def plc (tl : List (Option Nat)) (F : List Nat) (t : Nat) : Nat := (F.findIdx? fun x => decide (tl.getD x none = some t)).getD 0
noncomputable def oneOf (es : List (Nat × Nat)) (tl : List (Option Nat)) (hub m : Nat) : Nat := (frees es tl hub m).getD 0 0
noncomputable def othOf (es : List (Nat × Nat)) (tl : List (Option Nat)) (hub m : Nat) (F : List Nat) : Nat := (frees es tl (tip es hub (lst F)) m).getD 0 0
noncomputable def bhOf (es : List (Nat × Nat)) (tl : List (Option Nat)) (hub m : Nat) (F : List Nat) : List (Option Nat) := trn tl (oneOf es tl hub m) (othOf es tl hub m F) (chS es tl (oneOf es tl hub m) (othOf es tl hub m F) hub)
noncomputable def usedOf (es : List (Nat × Nat)) (tl : List (Option Nat)) (hub m : Nat) (F : List Nat) : List Nat :=
  if othOf es tl hub m F ∈ frees es (bhOf es tl hub m F) (tip es hub (F.getD (plc tl F (othOf es tl hub m F) - 1) 0)) m then F.take (plc tl F (othOf es tl hub m F)) else F
noncomputable def turnOf (es : List (Nat × Nat)) (tl : List (Option Nat)) (hub m : Nat) (F : List Nat) : List Stp :=
  .turn hub (oneOf es tl hub m) (othOf es tl hub m F) :: hnd (bhOf es tl hub m F) (othOf es tl hub m F) (usedOf es tl hub m F)
noncomputable def fanOf (es : List (Nat × Nat)) (tl : List (Option Nat)) (k m : Nat) : List Nat := fanF es tl (es.getD k (0, 0)).1 m es.length [k]
noncomputable def roomF (es : List (Nat × Nat)) (tl : List (Option Nat)) (k m : Nat) : List Stp :=
  if 0 < (both es tl (es.getD k (0, 0)).1 (tip es (es.getD k (0, 0)).1 (lst (fanOf es tl k m))) m).length then hnd tl ((both es tl (es.getD k (0, 0)).1 (tip es (es.getD k (0, 0)).1 (lst (fanOf es tl k m))) m).getD 0 0) (fanOf es tl k m)
  else turnOf es tl (es.getD k (0, 0)).1 m (fanOf es tl k m)
structure ResF (es : List (Nat × Nat)) (tl : List (Option Nat)) (k m n : Nat) (sl : List Stp) : Prop where
  ex : ∃ tE, Wk es n m sl tl tE ∧ tE.length = es.length ∧ CleanTo es tE es.length ∧ (∃ t, tE[k]? = some (some t)) ∧ (∀ j, j ≠ k → (tE[j]? = some none ↔ tl[j]? = some none)) ∧ ∃ l : List Nat, l.length ≤ 2 * n ∧ ∀ j, j ≠ k → tl[j]? ≠ tE[j]? → j ∈ l
  few : sl.length ≤ 2 * n + 1
section
variable {es : List (Nat × Nat)} {tl : List (Option Nat)} {hub k m n M : Nat} {F : List Nat}
theorem FanOk.cons (h : FanOk es tl hub k m F) : ∃ r, F = k :: r := by
  have := h.hd
  cases F with
  | nil => cases this
  | cons x r => cases this; exact ⟨r, rfl⟩
theorem FanOk.full (h : FanOk es tl hub k m F) {x : Nat} (hx : x ∈ F) (hn : x ≠ k) : ∃ t, t < m ∧ tl[x]? = some (some t) := by
  obtain ⟨i, hi⟩ := List.mem_iff_getElem?.mp hx
  cases i with
  | zero => rw [h.hd] at hi; exact absurd (Option.some.inj hi).symm hn
  | succ i =>
    have hlt := (List.getElem?_eq_some_iff.mp hi).1
    obtain ⟨t, a, b, _⟩ := h.seq i _ x (List.getElem?_eq_getElem (by omega)) hi
    exact ⟨t, a, b⟩
theorem shared_ok (ok : ∀ e ∈ es, e.1 < n ∧ e.2 < n ∧ e.1 ≠ e.2) (pl : PlainN es) (hC : CleanTo es tl es.length) (hl : tl.length = es.length) (hb : tl[k]? = some none) (h : FanOk es tl hub k m F) {t : Nat} (tm : t < m) (h1 : ¬ Used es tl es.length hub t) (h2 : ¬ Used es tl es.length (tip es hub (lst F)) t) : ResF es tl k m n (hnd tl t F) := by
  obtain ⟨r, hF⟩ := h.cons
  have hnd := h.nd
  have hle := h.tips pl ok
  have hlst := lst_get h.pos
  have hh := h
  rw [hF] at hnd hlst
  obtain ⟨res, w1, w2, w3, w4, w5⟩ := hnd_ok (tl := tl) (m := m) ok pl tm r k tl hl hC hb hnd (fun i hi => h.at' i (by rw [hF]; exact hi)) (fun _ _ => rfl) (fun i a b a1 a2 => h.seq i a b (by rw [hF]; exact a1) (by rw [hF]; exact a2))
    (fun a ha => by
      rw [show (k :: r).length - 1 = r.length from rfl, ha] at hlst
      cases hlst
      rw [← hF]
      exact h2) h1
  rw [← hF] at w1 w4 w5
  refine ⟨⟨res, w1, w2, w3, w5 k (by rw [hF]; exact List.mem_cons_self), fun j hj => ?_, F, by omega, fun j hj z => ?_⟩, ?_⟩
  · by_cases hin : j ∈ F
    · obtain ⟨t1, e1⟩ := w5 j hin
      obtain ⟨t2, _, e2⟩ := h.full hin hj
      rw [e1, e2]
      exact ⟨fun z => (by cases Option.some.inj z), fun z => (by cases Option.some.inj z)⟩
    · rw [w4 j hin]
  · exact Classical.byContradiction fun hin => z (w4 j hin).symm
  · have := hnd_len tl t F
    omega
theorem rp_off {u v p x : Nat} {S : List Nat} {t : Nat} (hR : ∀ k, k ∈ S ↔ RT es tl u v p k) (h : Used es (trn tl u v S) es.length x t) (hn : ¬ Used es tl es.length x t) : RP es tl u v p x :=
  Classical.byContradiction fun z => hn ((used_off hR z).mp h)
theorem plc_spec {t : Nat} (h : ∃ x ∈ F, tl[x]? = some (some t)) : ∃ x, F[plc tl F t]? = some x ∧ tl[x]? = some (some t) := by
  have gd : ∀ x, decide (tl.getD x none = some t) = true ↔ tl[x]? = some (some t) := fun x => by
    rw [decide_eq_true_eq, List.getD_eq_getElem?_getD]
    cases q : tl[x]? with
    | none => exact ⟨fun z => (by cases z), fun z => (by cases z)⟩
    | some o => exact ⟨fun z => congrArg some z, fun z => Option.some.inj z⟩
  unfold plc
  cases q : F.findIdx? fun x => decide (tl.getD x none = some t) with
  | none =>
    obtain ⟨x, hx, e⟩ := h
    have := List.findIdx?_eq_none_iff.mp q x hx
    rw [(gd x).mpr e] at this
    cases this
  | some i =>
    obtain ⟨hi, h1, _⟩ := List.findIdx?_eq_some_iff_getElem.mp q
    exact ⟨F[i], List.getElem?_eq_getElem hi, (gd _).mp h1⟩
theorem turn_ok (ok : ∀ e ∈ es, e.1 < n ∧ e.2 < n ∧ e.1 ≠ e.2) (pl : PlainN es) (hC : CleanTo es tl es.length) (hl : tl.length = es.length) (hb : tl[k]? = some none) (hM : ∀ x, x < n → dg es es.length x ≤ M) (hm : M < m) (hn : hub < n) (h : FanOk es tl hub k m F)
    (hno : ¬ 0 < (both es tl hub (tip es hub (lst F)) m).length) (hon : onw es tl hub m F = []) : ResF es tl k m n (turnOf es tl hub m F) ∧ ∃ x, F[plc tl F (othOf es tl hub m F)]? = some x ∧ tl[x]? = some (some (othOf es tl hub m F)) ∧ 0 < plc tl F (othOf es tl hub m F) := by
  have fpos : ∀ x, x < n → 0 < (frees es tl x m).length := fun x hx => by
    have h1 := frees_ct es tl x m
    have h2 := ct_le es tl x
    have h3 := hM x hx
    omega
  obtain ⟨hll, hla⟩ := h.at' _ h.lst_in
  have htl := tip_lt (hub := hub) ok hll
  have one1 := frees_mem.mp (head_mem (fpos hub hn))
  have oth1 := frees_mem.mp (head_mem (fpos _ htl))
  have e1 : (frees es tl hub m).getD 0 0 = oneOf es tl hub m := rfl
  have e2 : (frees es tl (tip es hub (lst F)) m).getD 0 0 = othOf es tl hub m F := rfl
  rw [e1] at one1
  rw [e2] at oth1
  unfold turnOf usedOf bhOf
  generalize oneOf es tl hub m = u at *
  generalize othOf es tl hub m F = v at *
  have huse : Used es tl es.length hub v := Classical.byContradiction fun z => hno (List.length_pos_of_mem (both_mem.mpr ⟨oth1.1, z, oth1.2⟩))
  have huv : u ≠ v := fun z => one1.2 (by rw [z]; exact huse)
  obtain ⟨x0, x1, x2, x3⟩ := huse
  have x0F : x0 ∈ F := Classical.byContradiction fun z => by
    have := (onw_mem (hub := hub) (m := m) (F := F) hl).mpr ⟨x1, x3, ⟨v, x2, oth1⟩, z⟩
    rw [hon] at this
    cases this
  obtain ⟨xs, p1, p2⟩ := plc_spec (tl := tl) (F := F) (t := v) ⟨x0, x0F, x2⟩
  have xsF := List.mem_of_getElem? p1
  obtain ⟨xsl, xsa⟩ := h.at' xs xsF
  generalize hpl : plc tl F v = pc at *
  have pc0 : 0 < pc := by
    rcases Nat.eq_zero_or_pos pc with z | z
    · rw [z, h.hd] at p1
      cases p1
      rw [hb] at p2
      cases Option.some.inj p2
    · exact z
  refine ⟨?_, xs, p1, p2, pc0⟩
  have hR : ∀ j, j ∈ chS es tl u v hub ↔ RT es tl u v hub j := fun j => chS_mem
  have hS := chS_rise es tl u v hub
  generalize chS es tl u v hub = S at *
  have hI : ∀ j ∈ S, InP tl u v j := fun j hj => ((hR j).mp hj).2.1
  have rt0 : RT es tl u v hub xs := ⟨xsl, .inr p2, hub, .start, xsa⟩
  have c1 := trn_clean huv hR hC
  have l1 : (trn tl u v S).length = es.length := by rw [trn_len]; exact hl
  have b1 : (trn tl u v S)[k]? = some none := (bare_trn hI).mpr hb
  have hubv : ¬ Used es (trn tl u v S) es.length hub v := fun z => by
    have := (used_swap huv hR (x := hub) .start (t := v) (.inr rfl)).mp z
    unfold swt at this
    rw [if_neg (Ne.symm huv)] at this
    exact one1.2 this
  have pcl : pc < F.length := (List.getElem?_eq_some_iff.mp p1).1
  have same : ∀ i a b, F[i]? = some a → F[i + 1]? = some b → i + 1 ≠ pc → ∃ t, t < m ∧ (trn tl u v S)[b]? = some (some t) ∧ ¬ Used es (trn tl u v S) es.length (tip es hub a) t := fun i a b h1 h2 hne => by
    obtain ⟨t, tm, tb, tf⟩ := h.seq i a b h1 h2
    obtain ⟨bl, ba⟩ := h.at' b (List.mem_of_getElem? h2)
    have tu : t ≠ u := fun z => one1.2 ⟨b, bl, by rw [← z]; exact tb, ba⟩
    have tv : t ≠ v := fun z => by
      have eb : b = xs := clean_two hC bl xsl (by rw [← z]; exact tb) p2 ba xsa
      rw [eb] at h2
      have hi1 := (List.getElem?_eq_some_iff.mp h2).1
      exact hne ((List.getElem?_inj hi1 h.nd).mp (h2.trans p1.symm))
    exact ⟨t, tm, (get_else huv hI tu tv).mpr tb, fun z => tf ((used_else huv hI tu tv).mp z)⟩
  obtain ⟨r, hF⟩ := h.cons
  have hle := h.tips pl ok
  have hSl := chain_len ok hC hS hR
  obtain ⟨q0, hq0⟩ : ∃ a, F[pc - 1]? = some a := ⟨_, List.getElem?_eq_getElem (by omega)⟩
  have hq0F := List.mem_of_getElem? hq0
  obtain ⟨q0l, q0a⟩ := h.at' q0 hq0F
  have gdq : F.getD (pc - 1) 0 = q0 := by rw [List.getD_eq_getElem?_getD, hq0]; rfl
  rw [gdq]
  have fin : ∀ G : List Nat, (∀ x ∈ G, x ∈ F) → G.length ≤ F.length → (∃ g, G = k :: g) → (∃ res, Wk es n m (hnd (trn tl u v S) v G) (trn tl u v S) res ∧ res.length = es.length ∧ CleanTo es res es.length ∧ (∀ i, i ∉ G → res[i]? = (trn tl u v S)[i]?) ∧ ∀ i ∈ G, ∃ t, res[i]? = some (some t)) →
      ResF es tl k m n (.turn hub u v :: hnd (trn tl u v S) v G) := fun G hG hGl ⟨g, eg⟩ ⟨res, w1, w2, w3, w4, w5⟩ => by
    refine ⟨⟨res, .cons (s := .turn hub u v) ⟨hn, one1.1, oth1.1, huv⟩ ⟨S, hS, hR, rfl⟩ c1 w1, w2, w3, w5 k (by rw [eg]; exact List.mem_cons_self), fun j hj => ?_, F ++ S, by rw [List.length_append]; omega, fun j hj z => ?_⟩, ?_⟩
    · by_cases hin : j ∈ G
      · obtain ⟨t1, e1⟩ := w5 j hin
        obtain ⟨t2, _, e2⟩ := h.full (hG j hin) hj
        rw [e1, e2]
        exact ⟨fun z => (by cases Option.some.inj z), fun z => (by cases Option.some.inj z)⟩
      · rw [w4 j hin, bare_trn hI]
    · by_cases hin : j ∈ G
      · exact List.mem_append_left _ (hG j hin)
      · rw [w4 j hin] at z
        exact List.mem_append_right _ (Classical.byContradiction fun y => z (trn_out y).symm)
    · have := hnd_len (trn tl u v S) v G
      rw [List.length_cons]
      omega
  split
  · rename_i hcase
    have hfr := (frees_mem.mp hcase).2
    have eG : F.take pc = k :: r.take (pc - 1) := by
      rw [hF, show pc = (pc - 1) + 1 by omega, List.take_succ_cons]
      rfl
    have tlen : (F.take pc).length = pc := by rw [List.length_take]; omega
    have gt : ∀ i, i < pc → (F.take pc)[i]? = F[i]? := fun i hi => List.getElem?_take_of_lt hi
    refine fin (F.take pc) (fun x hx => List.mem_of_mem_take hx) (by omega) ⟨_, eG⟩ ?_
    have nd2 : (F.take pc).Nodup := h.nd.sublist (List.take_sublist _ _)
    rw [eG] at nd2 tlen gt ⊢
    have lr : (r.take (pc - 1)).length = pc - 1 := by rw [List.length_cons] at tlen; omega
    refine hnd_ok (tl := trn tl u v S) (m := m) ok pl oth1.1 _ k (trn tl u v S) l1 c1 b1 nd2 (fun i hi => h.at' i (List.mem_of_mem_take (by rw [eG]; exact hi))) (fun _ _ => rfl) (fun i a b a1 a2 => ?_) (fun a ha => ?_) hubv
    · have hi : i + 1 < pc := by rw [← tlen]; exact (List.getElem?_eq_some_iff.mp a2).1
      rw [gt _ hi] at a2
      rw [gt _ (by omega)] at a1
      exact same i a b a1 a2 (by omega)
    · rw [lr, gt _ (by omega), hq0] at ha
      cases ha
      exact hfr
  · rename_i hcase
    have husd : Used es (trn tl u v S) es.length (tip es hub q0) v := Classical.byContradiction fun z => hcase (frees_mem.mpr ⟨oth1.1, z⟩)
    obtain ⟨t0, _, t0b, t0f⟩ := h.seq (pc - 1) q0 xs hq0 (by rw [show pc - 1 + 1 = pc by omega]; exact p1)
    rw [p2] at t0b
    cases Option.some.inj (Option.some.inj t0b)
    have hon' : RP es tl u v hub (tip es hub q0) := rp_off hR husd t0f
    have on : ∀ x, RP es tl u v hub x → (¬ Used es tl es.length x u ∨ ¬ Used es tl es.length x v) → deg es S x = 1 := fun x hx hf => by
      obtain ⟨j, h1, h2⟩ := rp_tie hx ⟨xs, rt0⟩
      have h3 := deg_pos ((hR j).mpr h1) h2
      have h4 := deg_one hS hR ok hC hf
      omega
    refine fin F (fun x hx => hx) (Nat.le_refl _) ⟨r, hF⟩ ?_
    have hnd := h.nd
    have hlst := lst_get h.pos
    rw [hF] at hnd hlst
    have key := hnd_ok (tl := trn tl u v S) (m := m) (n := n) (hub := hub) ok pl oth1.1 r k (trn tl u v S) l1 c1 b1 hnd (fun i hi => h.at' i (by rw [hF]; exact hi)) (fun _ _ => rfl) (fun i a b a1 a2 => ?_) (fun a ha => ?_) hubv
    · rw [← hF] at key
      exact key
    · rw [← hF] at a1 a2
      by_cases hi : i + 1 = pc
      · rw [hi, p1] at a2
        cases a2
        rw [show i = pc - 1 by omega, hq0] at a1
        cases a1
        refine ⟨u, one1.1, ?_, fun z => ?_⟩
        · rw [trn_in ((hR xs).mpr rt0) (.inr p2), swp_v huv p2]
        · have := (used_swap huv hR hon' (t := u) (.inl rfl)).mp z
          unfold swt at this
          rw [if_pos rfl] at this
          exact t0f this
      · exact same i a b a1 a2 hi
    · rw [show (k :: r).length - 1 = r.length from rfl, ha] at hlst
      cases hlst
      rw [← hF]
      intro z
      by_cases hrp : RP es tl u v hub (tip es hub (lst F))
      · have hne : q0 ≠ lst F := fun y => by
          have hl2 := lst_get h.pos
          rw [← y] at hl2
          have := (List.getElem?_inj (by omega) h.nd).mp (hq0.trans hl2.symm)
          omega
        exact three_ends ok hn hC hS hR (on hub .start (.inl one1.2)) (on _ hon' (.inr t0f)) (on _ hrp (.inr oth1.2)) (Ne.symm (tip_ne ok q0l q0a)) (Ne.symm (tip_ne ok hll hla)) (pl q0 (lst F) q0l hll hne hub q0a hla)
      · exact oth1.2 ((used_off hR hrp).mp z)
theorem room_ok (ok : ∀ e ∈ es, e.1 < n ∧ e.2 < n ∧ e.1 ≠ e.2) (pl : PlainN es) (hC : CleanTo es tl es.length) (hl : tl.length = es.length) (hk : k < es.length) (hb : tl[k]? = some none) (hM : ∀ x, x < n → dg es es.length x ≤ M) (hm : M < m) : ResF es tl k m n (roomF es tl k m) := by
  obtain ⟨hF, hst⟩ := fan_ok (hub := (es.getD k (0, 0)).1) (k := k) (m := m) hl es.length [k] (FanOk.start hk (.inl rfl)) (by omega)
  unfold roomF fanOf
  split
  · rename_i h0
    obtain ⟨t1, t2, t3⟩ := both_mem.mp (head_mem h0)
    exact shared_ok ok pl hC hl hb hF t1 t2 t3
  · rename_i h0
    exact (turn_ok ok pl hC hl hb hM hm (ok _ (getD_mem hk)).1 hF h0 (hst.resolve_left h0)).1
end
end My
set_option Elab.async false
set_option linter.all false
set_option maxRecDepth 100000
set_option maxHeartbeats 4000000
namespace L2
open PySem PySem.Spec PyProof.Rows
theorem ps_lcT {X : Cx} {scope : Scope} {cl : List (Str × Addr)} {N : List Str} {bs : List (Option Nat)} {tg iter elt : Expr} {ifs : List Expr} {pos spos px : Pos} {x : Str} {tl : TE} {g gt : TG} {tt : TT} {te : TE} (B : Blk X scope cl N bs) (hc : X.calm = true)
    (hl : PE X iter tl) (hm : MonoE tl) (hg : ∀ C fp s H, PG (cxBlk X scope cl C N fp s H) tg g) (ht : ∀ C fp s H, PTs (cxBlk X scope cl C N fp s H) ifs tt) (he : ∀ C fp s H, PE (cxBlk X scope cl C N fp s H) elt te)
    (hgt : PG X (.Name x px) gt) (hsw : swapsWith (.ListComp elt [⟨tg, iter, ifs, 0⟩] scope pos) (some (.Name x px)) spos.line X.env = pure true)
    (hs : ∀ x, foldedSetIterable iter X.env x = pure x := by intro _; rfl) : PS X (.Assign [.Name x px] (.ListComp elt [⟨tg, iter, ifs, 0⟩] scope pos) spos) (tAsg (tLCT X.K bs tl g tt te) gt) := by
  intro pins s σ H D I h
  refine @ps_lc X scope cl N bs tg iter elt ifs pos spos px x (iTup X.K tl) g gt tt te B hc (@pi_tup X _ _ _ hl) hg ht he hgt hsw hs pins s σ H D I ?_
  refine hm σ H _ _ (fun x H1 h => ?_) h
  obtain ⟨a, xs, e, hS, hz, Pv, p0, pl, ps, pd⟩ := h
  exact ⟨a, e, ⟨xs, hS⟩, lc_tup (Q := fun x H1 => gt x σ H1 D.nx) Pv (leMil hz) p0 pl ps fun ys σ H hp p hpn => pd ys σ H hp p _ (same_add hpn) upd_same⟩
theorem ix_tupX {X : Cx} {K : PySem.W.Frag} (hK : X.K = K) : IxR X (rIxT K) := by
  subst hK
  exact ix_tup
end L2
set_option Elab.async false
set_option linter.all false
set_option maxRecDepth 100000
set_option maxHeartbeats 4000000
namespace L2
open PySem PySem.Spec PyProof.Rows
theorem op_inQ {X : Cx} {K : PySem.W.Frag} (hK : X.K = K) : OpR X (compareOp .In) (rIn K false) := by
  subst hK
  exact op_in_seq
theorem op_notInQ {X : Cx} {K : PySem.W.Frag} (hK : X.K = K) : OpR X (compareOp .NotIn) (rIn K true) := by
  subst hK
  exact op_notIn_seq
end L2
namespace My
open PySem L2
theorem lst_split {F : List Nat} (h : 0 < F.length) : F = F.take (F.length - 1) ++ [lst F] := by
  have e := lst_get h
  have := List.take_append_drop (F.length - 1) F
  rw [List.drop_eq_getElem_cons (by omega)] at this
  rw [List.getElem?_eq_getElem (by omega)] at e
  rw [Option.some.inj e, show F.length - 1 + 1 = F.length by omega, List.drop_length] at this
  exact this.symm
theorem at_last {F : List Nat} (h : 0 < F.length) : atI (nl F) (-1) = some (.int (lst F : Int)) := by
  have e := lst_split h
  rw [e]
  have e2 : nl (F.take (F.length - 1) ++ [lst F]) = nl (F.take (F.length - 1)) ++ [.int (lst F : Int)] := by unfold nl; rw [List.map_append]; rfl
  rw [← e] at *
  rw [e2]
  exact atI_last _ _
theorem same_pair {e e' : Nat × Nat} (h1 : min e.1 e.2 = min e'.1 e'.2) (h2 : max e.1 e.2 = max e'.1 e'.2) : At e' e.1 ∧ oth e e.1 = oth e' e.1 := by
  unfold At oth
  rw [if_pos rfl]
  by_cases z : e'.1 = e.1
  · rw [if_pos z]
    omega
  · rw [if_neg z]
    omega
section
variable {P : Program} {w : World} {K : PySem.W.Frag} {mg : Str → Option Value} {base : Heap}
abbrev sLp : Stmt := top 22
abbrev nLp : List Str := ["net", "first", "tie", "ends", "pair"]
def spLp : Sp := fun vs H Q _ => ∃ (p : Addr) (n : Nat) (q : Addr) (ts : List V) (es : List (Nat × Nat)), vs = [.ref p] ∧ NetZ H p n q ts es ∧ PlainN es ∧ ∀ H', Same H H' → Q .non H'
theorem scLp : FnScope nLp ["net"] (defScope sLp) := ⟨rfl, rfl, rfl, by decide +kernel, rfl, by decide +kernel, by decide +kernel⟩
theorem ok_lp {f : Addr} {fd : FuncData} (F : Fun K "like_pair" "like_pair" sLp f fd) (T : Bi mg) (hen : mg "enumerate" = none) : FnOk P w K mg base CX0 1 f fd ["net"] spLp := by
  refine F.ok scLp (fun vs H Q E h => ?_) (fun cdv A outer s H vs Q E hr h => ?_)
  · obtain ⟨p, n, q, ts, es, rfl, _⟩ := h
    rfl
  · obtain ⟨p, n, qa, ts, es, rfl, N, pl, q⟩ := h
    have hu := hu_of hr
    refine ⟨_, pss_cons (ps_set (i := 1) scLp.nd rfl (Or.inl rfl) pe_dnewT)
      (pss_cons (ps_for PassesOwn.never rfl (pi_enum rfl hen (pa_c (pe_ix ix_tup (pv 0) pe_int (fun _ _ => rfl)) pa_nil) rfl) (pg_tup rfl (pgs_cons (pg_name (i := 2) scLp.nd rfl (Or.inl rfl)) (pgs_cons (pg_name (i := 3) scLp.nd rfl (Or.inl rfl)) pgs_nil)))
        (pss_cons (ps_set (i := 4) scLp.nd rfl (Or.inl rfl) (pe_tupS (pa_c (pe_callB (call_mins rfl) rfl T.min bMin (pa_c (pv 3) pa_nil)) (pa_c (pe_callB (call_maxs rfl) rfl T.max bMax (pa_c (pv 3) pa_nil)) pa_nil))))
        (pss_cons (ps_if (pt_cmp (pc_din hu (pv 4) (pv 1))) pss_never pss_nil)
        (pss_one (ps_dput hu (pv 1) (pv 4) (pv 2) rfl)))))
      (pss_one (ps_ret pe_non))), ?_⟩
    have h200 := N.l200
    have hlen := N.len
    intro d hd
    have s0 : Same H (upd H d (.dT [])) := same_new hd
    refine ⟨_, rfl, p, _, _, _, rfl, rfl, SqT.of (s0 _ _ N.e1), rfl, qa, rfl, ⟨_, SqT.of (s0 _ _ N.e2)⟩, for_enum (K := K) (a := qa) (xs := ts) (fun i σ G => ∃ kvs v2 v3 v4, σ = [some (.ref p), some (.ref d), v2, v3, v4] ∧ Same H G ∧ G d = some (.dT kvs) ∧ kvs.length ≤ i ∧ Keys kvs (fun a b => ∃ j, j < i ∧ a = min (es.getD j (0, 0)).1 (es.getD j (0, 0)).2 ∧ b = max (es.getD j (0, 0)).1 (es.getD j (0, 0)).2))
      ⟨[], _, _, _, rfl, s0, upd_same, Nat.le_refl _, fun a b => ⟨(fun z => by cases z), fun ⟨j, z, _⟩ => absurd z (Nat.not_lt_zero _)⟩⟩ (fun i σ G _ ⟨kvs, _, _, _, _, sG, _⟩ => SqT.of (sG _ _ N.e2)) (fun i x σ G hx ⟨kvs, v2, v3, v4, e, sG, hD, hkv, hK⟩ TT G1 s1 hTT => ?_) (fun σ G ⟨kvs, v2, v3, v4, e, sG, hD, hkv, hK⟩ => q G sG)⟩
    subst e
    have hi : i < es.length := by rw [← hlen]; exact (List.getElem?_eq_some_iff.mp hx).1
    obtain ⟨a, rfl, ha⟩ := N.tie i x hx
    have sG1 := Same.trans sG s1
    refine ⟨TT, _, rfl, SqT.of hTT, rfl, _, _, rfl, _, _, rfl, rfl, ?_⟩
    generalize hA : (es.getD i (0, 0)).1 = A1 at *
    generalize hB : (es.getD i (0, 0)).2 = B1 at *
    refine ⟨_, rfl, a, [(A1 : Int), (B1 : Int)], rfl, .inr (SqT.of (sG1 _ _ ha)), (by show 0 < 2; decide), fun M1 m1 m2 => ?_⟩
    refine ⟨_, rfl, a, [(A1 : Int), (B1 : Int)], rfl, .inr (SqT.of (sG1 _ _ ha)), (by show 0 < 2; decide), fun M2 m3 m4 => ?_⟩
    have e1 : M1 = ((min A1 B1 : Nat) : Int) := by
      have h1 := m2 (A1 : Int) (.head _)
      have h2 := m2 (B1 : Int) (.tail _ (.head _))
      simp only [List.mem_cons, List.not_mem_nil, or_false] at m1
      omega
    have e2 : M2 = ((max A1 B1 : Nat) : Int) := by
      have h1 := m4 (A1 : Int) (.head _)
      have h2 := m4 (B1 : Int) (.tail _ (.head _))
      simp only [List.mem_cons, List.not_mem_nil, or_false] at m3
      omega
    subst e1 e2
    refine ⟨rfl, fun u G2 s2 hu' => ?_⟩
    have sG2 := Same.trans sG1 s2
    refine ⟨_, rfl, _, rfl, d, _, rfl, DGet.t (k := ky (min A1 B1) (max A1 B1)) (s2 _ _ (s1 _ _ hD)) hu', _, rfl, ?_⟩
    refine ite2 (fun hz => ?_) (fun hz => ?_)
    · obtain ⟨j, hj, j1, j2⟩ := (hK _ _).mp hz
      obtain ⟨q1, q2⟩ := same_pair (e := es.getD i (0, 0)) (e' := es.getD j (0, 0)) (by rw [hA, hB]; exact j1) (by rw [hA, hB]; exact j2)
      exact absurd q2 (pl i j hi (by omega) (by omega) _ (.inl rfl) q1)
    · have l1 := length_putK kvs (ky (min A1 B1) (max A1 B1)) (V.int (i : Int))
      refine ⟨_, rfl, _, rfl, _, rfl, d, _, rfl, DPut.t (k := ky (min A1 B1) (max A1 B1)) (s2 _ _ (s1 _ _ hD)) hu' (by rw [sizeLine_eq]; omega), ?_⟩
      refine ⟨_, _, _, _, rfl, sG2.wr hd, upd_same, by omega, (hK.put _ _ _).iff fun a' b' => ?_⟩
      constructor
      · rintro (⟨j, z1, z2⟩ | ⟨rfl, rfl⟩)
        · exact ⟨j, by omega, z2⟩
        · exact ⟨i, Nat.lt_succ_self _, by rw [hA, hB], by rw [hA, hB]⟩
      · rintro ⟨j, z1, z2, z3⟩
        rcases Nat.lt_succ_iff_lt_or_eq.mp z1 with z | z
        · exact .inl ⟨j, z, z2, z3⟩
        · subst z
          rw [hA, hB] at z2 z3
          exact .inr ⟨z2, z3⟩
end
end My
set_option Elab.async false
set_option linter.all false
set_option maxRecDepth 100000
set_option maxHeartbeats 4000000
namespace My
open PySem L2
theorem mono_at : ∀ vs H Q Q' E, (∀ v H', Q v H' → Q' v H') → spAt vs H Q E → spAt vs H Q' E := fun vs H Q Q' E k ⟨p, n, q, ts, es, x, e, N, z⟩ => ⟨p, n, q, ts, es, x, e, N, fun H' t s ht => k _ _ (z H' t s ht)⟩
theorem in_tN (o : Option Nat) (l : List Nat) : inV (tN o) (nl l) = (match o with | none => false | some t => decide (t ∈ l)) := by
  cases o with
  | none =>
    show inV .non (nl l) = false
    unfold inV nl
    rw [List.any_map, List.any_eq_false]
    exact fun x _ => fun z => by cases z
  | some t =>
    show inV (.int (t : Int)) (nl l) = decide (t ∈ l)
    by_cases h : t ∈ l
    · rw [decide_eq_true h]
      exact (in_nl t l).mpr h
    · rw [decide_eq_false h]
      exact Bool.eq_false_iff.mpr fun z => h ((in_nl t l).mp z)
noncomputable def onB (es : List (Nat × Nat)) (tl : List (Option Nat)) (hub m : Nat) (F : List Nat) (x : Nat) : Bool := (match tl.getD x none with | none => false | some t => decide (t ∈ frees es tl (tip es hub (lst F)) m)) && decide (x ∉ F)
noncomputable def onTo (es : List (Nat × Nat)) (tl : List (Option Nat)) (hub m : Nat) (F : List Nat) (i : Nat) : List Nat := ((ats es hub).take i).filter (onB es tl hub m F)
theorem onTo_succ {es : List (Nat × Nat)} {tl : List (Option Nat)} {hub m x i : Nat} {F : List Nat} (hx : (ats es hub)[i]? = some x) : onTo es tl hub m F (i + 1) = onTo es tl hub m F i ++ if onB es tl hub m F x = true then [x] else [] := by
  unfold onTo
  rw [List.take_succ, hx]
  show List.filter _ ((ats es hub).take i ++ [x]) = _
  rw [List.filter_append, List.filter_cons]
  rfl
theorem onTo_len (es : List (Nat × Nat)) (tl : List (Option Nat)) (hub m : Nat) (F : List Nat) (i : Nat) : (onTo es tl hub m F i).length ≤ i := by
  unfold onTo
  refine Nat.le_trans (List.length_filter_le _ _) ?_
  rw [List.length_take]
  omega
structure FIn (H : Hp) (p r : Addr) (n : Nat) (q : Addr) (ts : List V) (es : List (Nat × Nat)) (tl : List (Option Nat)) (m : Nat) : Prop where
  N : NetZ H p n q ts es
  hR : H r = some (.tup (tv tl))
  len : tl.length = es.length
  hm : m ≤ 1000
theorem FIn.same {H H' : Hp} {p r : Addr} {n : Nat} {q : Addr} {ts : List V} {es : List (Nat × Nat)} {tl : List (Option Nat)} {m : Nat} (h : FIn H p r n q ts es tl m) (s : Same H H') : FIn H' p r n q ts es tl m := ⟨h.N.same s, s _ _ h.hR, h.len, h.hm⟩
def hdV : List Nat → V
  | [] => .non
  | x :: _ => .int (x : Int)
section
variable {P : Program} {w : World} {K : PySem.W.Frag} {mg : Str → Option Value} {base : Heap}
abbrev sNf : Stmt := top 23
abbrev nNf : List Str := ["net", "tints", "hub", "fan", "many", "free", "onward"]
abbrev nfS : Scope := compScope (retE (stOf 23 1))
def spNf : Sp := fun vs H Q _ => ∃ (p r : Addr) (n : Nat) (q : Addr) (ts : List V) (es : List (Nat × Nat)) (tl : List (Option Nat)) (m hub : Nat) (fa : Addr) (F : List Nat), vs = [.ref p, .ref r, .int (hub : Int), .ref fa, .int (m : Int)] ∧ FIn H p r n q ts es tl m ∧ H fa = some (.lst (nl F)) ∧ 0 < F.length ∧ lst F < es.length ∧
  ∀ H', Same H H' → Q (hdV (onw es tl hub m F)) H'
theorem ndNf : (["tie", "fan", "free", "tints"] : List Str).Nodup := by decide +kernel
theorem scNf : FnScope nNf ["net", "tints", "hub", "fan", "many"] (defScope sNf) := ⟨rfl, rfl, rfl, by decide +kernel, rfl, by decide +kernel, by decide +kernel⟩
theorem blkNf {f : Addr} {cdv : Value} {A : Around} {outer : List Env} {s : Shared} {H : Hp} {E : XK} :
    Blk (cxOf CX0 P w K mg base nNf "next_in_fan" (defScope sNf) f cdv A outer s H E).nox nfS [("tints", s.heap.objs.size + 1), ("free", s.heap.objs.size + 3), ("fan", s.heap.objs.size + 2)] ["tie", "fan", "free", "tints"] [none, some 3, some 5, some 1] := by
  refine ⟨rfl, rfl, by decide +kernel, by decide +kernel, fun p hp => ?_, fun y hy e => ?_, ⟨rfl, rfl, rfl⟩, ⟨rfl, rfl, rfl⟩, ⟨rfl, rfl, rfl⟩, trivial⟩
  · simp only [List.mem_cons, List.not_mem_nil, or_false] at hp
    rcases hp with rfl | rfl | rfl <;> rfl
  · have hy' : y ∈ [((PySem.Str.ofString ".0" : Str), NameKind.local), (PySem.Str.ofString "tie", .local), (PySem.Str.ofString "fan", .free), (PySem.Str.ofString "free", .free), (PySem.Str.ofString "tints", .free)] := hy
    simp only [List.mem_cons, List.not_mem_nil, or_false] at hy'
    rcases hy' with rfl | rfl | rfl | rfl | rfl <;> first | rfl | cases e
theorem ok_nf {f : Addr} {fd : FuncData} (F : Fun K "next_in_fan" "next_in_fan" sNf f fd) (FFt : FnE P w K mg base "free_tints" ["net", "tints", "point", "many"] 3 spFt) (FAt : FnE P w K mg base "ties_at" ["net", "point"] 3 spAt) (FAc : FnE P w K mg base "across" ["net", "tie", "point"] 3 spAc) : FnOk P w K mg base CX0 4 f fd ["net", "tints", "hub", "fan", "many"] spNf := by
  refine F.ok scNf (fun vs H Q E h => ?_) (fun cdv A outer s H vs Q E hr h => ?_)
  · obtain ⟨p, r, n, q, ts, es, tl, m, hub, fa, F, rfl, _⟩ := h
    rfl
  · obtain ⟨p, r, n, qa, ts, es, tl, m, hub, fa, F, rfl, I, hF, hF0, hFl, q⟩ := h
    refine ⟨_, pss_cons (ps_set (i := 5) scNf.nd rfl (Or.inr rfl) (pe_fc FFt hr (pa_c (pv 0) (pa_c (pv 1) (pa_c (pe_fc FAc hr (pa_c (pv 0) (pa_c (pe_ix ix_list (pv 3) (pe_un un_neg pe_int) (fun _ _ => rfl)) (pa_c (pv 2) pa_nil)))) (pa_c (pv 4) pa_nil))))))
      (pss_cons (ps_lcT blkNf rfl (pe_fc FAt hr (pa_c (pv 0) (pa_c (pv 2) pa_nil))) (mono_call mono_at (monoA_cons (mono_var 0) (monoA_cons (mono_var 2) monoA_nil))) (fun C fp s H => pg_name (i := 0) ndNf rfl (Or.inl rfl))
        (fun C fp s H => pts_one (PW.pt (pw_and (pt_cmpR (op_inQ (K := K) rfl) (pe_ix (ix_tupX (K := K) rfl) (pv 3) (pv 0) (fun _ _ => rfl)) (pv 2) rfl) (pw_and1 (pt_cmpR (op_notInQ (K := K) rfl) (pv 0) (pv 1) rfl))))) (fun C fp s H => pv 0) (pg_name (i := 6) scNf.nd rfl (Or.inl rfl)) rfl)
      (pss_one (ps_ret (pe_ifExp (pt_truth (pv 6) (fun _ => rfl)) (pe_ix ix_list (pv 6) pe_int (fun _ _ => rfl)) pe_non)))), ?_⟩
    have N := I.N
    have h200 := N.l200
    refine ⟨_, rfl, _, rfl, _, rfl, _, rfl, _, rfl, fa, _, _, _, rfl, rfl, SqL.of hF, at_last hF0, _, rfl, p, n, qa, ts, es, lst F, hub, rfl, N, hFl, _, rfl, p, r, n, qa, ts, es, tl, tip es hub (lst F), m, rfl, N, I.hR, I.len, I.hm, fun H1 t1 s1 h1 => ?_⟩
    have I1 := I.same s1
    refine ⟨_, rfl, _, rfl, p, n, qa, ts, es, hub, rfl, I1.N, fun H2 t2 s2 h2 => ?_⟩
    have I2 := I1.same s2
    have hal : (ats es hub).length ≤ es.length := atsTo_len _ _ _
    have hF2 := s2 _ _ (s1 _ _ hF)
    have hf2 := s2 _ _ h1
    refine ⟨t2, _, rfl, SqT.of h2, (by rw [nl_len]; omega), fun i ys σ G => Same H2 G ∧ ys = nl (onTo es tl hub m F i) ∧ ∃ v0, σ = [v0, some (.ref fa), some (.ref t1), some (.ref r)], ⟨Same.refl _, rfl, none, rfl⟩, fun i ys σ G hi ⟨sG, e, _⟩ => ⟨SqT.of (sG _ _ h2), by subst e; rw [nl_len]; exact onTo_len _ _ _ _ _ _⟩, fun i x ys σ G hx ⟨sG, e1, v0, e⟩ => ?_, fun ys σ G ⟨sG, e1, _⟩ l H3 s3 hl => ?_⟩
    · subst e1 e
      obtain ⟨y, hy, rfl⟩ := nl_inv hx
      have hyl := (ats_mem.mp (List.mem_of_getElem? hy)).1
      have hgt := List.getElem?_eq_getElem (show y < tl.length by rw [I.len]; exact hyl)
      have egd : tl.getD y none = tl[y]'(by rw [I.len]; exact hyl) := by rw [List.getD_eq_getElem?_getD, hgt]; rfl
      generalize tl[y]'(by rw [I.len]; exact hyl) = o at hgt egd
      have hsu := onTo_succ (tl := tl) (m := m) (F := F) hy
      have eB : onB es tl hub m F y = (inV (tN o) (nl (frees es tl (tip es hub (lst F)) m)) && decide (y ∉ F)) := by
        unfold onB
        rw [egd, in_tN]
      refine ⟨_, rfl, _, rfl, r, _, _, _, rfl, rfl, SqT.of (sG _ _ I2.hR), atI_nat (tv_get hgt), _, rfl, t1, _, rfl, .inr (SqT.of (sG _ _ hf2)), flat_tN o, flat_nl _, _, rfl, ?_⟩
      refine ite2 (fun z => ?_) (fun z => ?_)
      · refine ⟨_, rfl, _, rfl, fa, _, rfl, .inl (SqL.of (sG _ _ hF2)), rfl, flat_nl _, _, rfl, ?_⟩
        have z' : inV (tN o) (nl (frees es tl (tip es hub (lst F)) m)) = true := z
        refine ite2 (fun z2 => ?_) (fun z2 => ?_)
        · have hn : y ∉ F := fun w => by
            have z3 : (!inV (.int (y : Int)) (nl F)) = true := z2
            rw [(in_nl y F).mpr w] at z3
            cases z3
          refine ⟨_, rfl, sG, ?_, _, rfl⟩
          rw [hsu, eB, z', decide_eq_true hn, nl_app]
          rfl
        · have hn : y ∈ F := Classical.byContradiction fun w => z2 (by
            show (!inV (.int (y : Int)) (nl F)) = true
            rw [Bool.eq_false_iff.mpr fun z3 => w ((in_nl y F).mp z3)]
            rfl)
          refine ⟨sG, ?_, _, rfl⟩
          rw [hsu, eB, decide_eq_false (fun w => w hn), Bool.and_false, if_neg (by decide), List.append_nil]
      · refine iteF ⟨sG, ?_, _, rfl⟩
        have z' : inV (tN o) (nl (frees es tl (tip es hub (lst F)) m)) = false := Bool.eq_false_iff.mpr z
        rw [hsu, eB, z', Bool.false_and, if_neg (by decide), List.append_nil]
    · subst e1
      have eO : onTo es tl hub m F (nl (ats es hub)).length = onw es tl hub m F := by
        rw [nl_len]
        unfold onTo
        rw [List.take_length]
        rfl
      rw [eO] at hl
      have s03 := Same.trans s1 (Same.trans s2 (Same.trans sG s3))
      refine ⟨_, rfl, _, .inl ⟨_, SqL.of hl, rfl⟩, ?_⟩
      cases qo : onw es tl hub m F with
      | nil =>
        rw [qo] at q
        exact iteF (q H3 s03)
      | cons x xs =>
        rw [qo] at q hl
        exact iteT ⟨_, rfl, l, _, _, _, rfl, rfl, SqL.of hl, atI_nat (j := 0) (nl_get rfl), q H3 s03⟩
end
end My
set_option Elab.async false
set_option linter.all false
set_option maxRecDepth 100000
set_option maxHeartbeats 4000000
namespace L2
open PySem PySem.Spec PyProof.Rows
def Itw (K : PySem.W.Frag) (a c : Addr) : It :=
  ⟨fun i H => ∃ xs ys x y, SqL K H a xs ∧ SqL K H c ys ∧ xs[i]? = some x ∧ ys[i]? = some y,
   fun i H x H' => ∃ T u v, x = .ref T ∧ H T = none ∧ H' = upd H T (.tup [u, v]) ∧ (∀ xs, SqL K H a xs → xs[i]? = some u) ∧ ∀ ys, SqL K H c ys → ys[i]? = some v,
   fun i H => ∃ xs ys, SqL K H a xs ∧ SqL K H c ys ∧ (xs.length ≤ i ∨ ys.length ≤ i)⟩
structure ZSw (h : Heap) (z TI TO i1 i2 a c : Addr) (i : Nat) : Prop where
  zip : IsZip h z TI TO .none
  ti : IsPair h TI (.ref i1) (.ref i2)
  to : ∃ u v, IsPair h TO u v
  it1 : h.IsListIter i1 a i
  it2 : h.IsListIter i2 c i
theorem turn_zipL {P : Program} {w : World} {K : PySem.W.Frag} {elts : List Expr} {x1 : Nat} {pos : Pos} (z TI TO i1 i2 a c : Addr) (D : ZipApart z TI TO i1 i2 a c) :
    Turn P w K (.Tuple elts x1 pos) (Itw K a c) [z, TI, TO, i1, i2] z (fun i h => ZSw h z TI TO i1 i2 a c i) where
  mem := by simp
  obj := fun i h st b hb => by
    obtain ⟨hz, hTI, ⟨u, v, hTO⟩, ⟨o1, e1, c1, d1⟩, ⟨o2, e2, c2, d2⟩⟩ := st
    simp only [List.mem_cons, List.not_mem_nil, or_false] at hb
    rcases hb with rfl | rfl | rfl | rfl | rfl
    · exact ⟨_, hz, fun v z => nomatch z⟩
    · exact ⟨_, hTI, fun v z => nomatch z⟩
    · exact ⟨_, hTO, fun v z => nomatch z⟩
    · exact ⟨o1, e1, fun v z => by rw [d1] at z; cases z⟩
    · exact ⟨o2, e2, fun v z => by rw [d2] at z; cases z⟩
  keep := fun i h h' st k => by
    obtain ⟨hz, hTI, ⟨u, v, hTO⟩, ⟨o1, e1, r1⟩, ⟨o2, e2, r2⟩⟩ := st
    exact ⟨k z (by simp) _ hz, k TI (by simp) _ hTI, ⟨u, v, k TO (by simp) _ hTO⟩, ⟨o1, k i1 (by simp) _ e1, r1⟩, ⟨o2, k i2 (by simp) _ e2, r2⟩⟩
  item := by
    intro X hP hw hK hc i pins s σ H E I hf st hg
    subst hP hw hK
    obtain ⟨xs, ys, x, y, hqa, hqc, hx, hy⟩ := hg
    obtain ⟨its, rv, p, hz⟩ := I.list hqa
    obtain ⟨jts, rw', pl, hz2⟩ := I.list hqc
    obtain ⟨u, hu, ru⟩ := rv.get hx
    obtain ⟨v, hv, rv'⟩ := rw'.get hy
    obtain ⟨hz, hTI, ⟨u0, v0, hTO⟩, h1, h2⟩ := st
    refine wpAny_pyNext_zip_item D hz hTI hTO h1 h2 p.isList pl.isList (by simpa using hu) (by simpa using hv) fun h' a1 a2 a3 a4 a5 a6 hk => ?_
    have I1 : Inv X pins σ H { s with heap := h' } := I.turnedL (t' := s.toks) (ch := [z, TI, TO, i1, i2]) (fun b o hb q => hk b o (fun z => hb (by simp [z])) (fun z => hb (by simp [z])) (fun z => hb (by simp [z])) (fun z => hb (by simp [z])) q) fun b hb => hf b hb
    refine ⟨_, rfl, wpAny_letOwnedTupleGo_zip (s := { s with heap := h' }) a1 fun h2' hz2' sb => ?_⟩
    have I2 : Inv X pins σ H { s with heap := h2' } := Inv.turnedL (s := { s with heap := h' }) (t' := s.toks) (ch := [z]) I1 (fun b o hb q => (sb.2 b (fun z => hb (by simp [z]))).trans q) fun b hb => by rw [List.mem_singleton.mp hb]; exact hf z (by simp)
    have hn : H s.heap.objs.size = none := I.hok.fresh (Nat.le_refl _)
    have fT : FpOk X pins H s.heap.objs.size := I.fpOk (Nat.le_refl _) hn
    have hzT : s.heap.objs.size ≠ z := Nat.ne_of_gt (Heap.lt_size hz)
    have hT2 : h2'.get? s.heap.objs.size = some { cls := .type "tuple", data := .seq #[u, v] } := (sb.2 _ hzT).trans a5
    obtain ⟨o1, e1, r1⟩ := a3
    obtain ⟨o2, e2, r2⟩ := a4
    refine ⟨.ref s.heap.objs.size, upd H s.heap.objs.size (.tup [x, y]), I2.track fT I.sz ⟨le1000 rfl, [u, v], .cons ru (.cons rv' .nil), ⟨_, hT2, rfl, _, rfl⟩⟩, rfl,
      ⟨_, x, y, rfl, hn, rfl, fun zs hs => by rw [I.list_inj hs hqa]; exact hx, fun zs hs => by rw [I.list_inj hs hqc]; exact hy⟩,
      ⟨hz2', (sb.2 _ D.TIz).trans (hk _ _ D.TIz D.TITO D.TIi1 D.TIi2 hTI), ⟨_, _, (sb.2 _ D.TOz).trans a2⟩, ⟨o1, (sb.2 _ D.i1z).trans e1, r1⟩, ⟨o2, (sb.2 _ D.i2z).trans e2, r2⟩⟩, fun b hb => ?_⟩
    have fb := (hf b hb).1
    rw [upd_ne]
    · exact fb
    · intro e
      have : ∃ o, s.heap.get? b = some o := by
        simp only [List.mem_cons, List.not_mem_nil, or_false] at hb
        rcases hb with rfl | rfl | rfl | rfl | rfl
        · exact ⟨_, hz⟩
        · exact ⟨_, hTI⟩
        · exact ⟨_, hTO⟩
        · obtain ⟨o, q, _⟩ := h1; exact ⟨o, q⟩
        · obtain ⟨o, q, _⟩ := h2; exact ⟨o, q⟩
      obtain ⟨o, q⟩ := this
      rw [e] at q
      exact Nat.lt_irrefl _ (Heap.lt_size q)
  done := by
    intro X hP hw hK hc i pins s σ H E I hf st hg
    subst hP hw hK
    obtain ⟨xs, ys, hqa, hqc, hend⟩ := hg
    obtain ⟨its, rv, p, hz⟩ := I.list hqa
    obtain ⟨jts, rw', pl, hz2⟩ := I.list hqc
    have l1 := rv.length
    have l2 := rw'.length
    obtain ⟨hz, hTI, ⟨u0, v0, hTO⟩, h1, h2⟩ := st
    refine wpAny_pyNext_zip_end (I.ok.hd hc) D hz hTI hTO h1 h2 p.isList pl.isList ?_ fun h' hk => ⟨rfl, I.turnedL (t' := s.toks) (ch := [z, TI, TO, i1, i2]) (fun b o hb q => hk b o (fun z => hb (by simp [z])) (fun z => hb (by simp [z])) (fun z => hb (by simp [z])) (fun z => hb (by simp [z])) q) fun b hb => hf b hb⟩
    rcases hend with q | q
    · exact .inl (by simp; omega)
    · exact .inr (by simp; omega)
  self := fun _ _ _ _ _ st h => wpAny_pyIter_zip st.zip h
def iZipL (K : PySem.W.Frag) (ta : TA) : TI := fun σ H R => ta σ H fun vs H1 => ∃ a c, vs = [.ref a, .ref c] ∧ (∃ xs, SqL K H1 a xs) ∧ (∃ ys, SqL K H1 c ys) ∧ R (Itw K a c) H1
theorem pi_zipL {X : Cx} {elts : List Expr} {x1 : Nat} {tpos : Pos} {a b : Expr} {ta : TA} {p pos : Pos} (hg : Gl X "zip") (hm : X.mg "zip" = none) (ha : PA X [a, b] ta) (hpl : plainE a = true) (hpl2 : plainE b = true) : PI X (.Tuple elts x1 tpos) (.Call (.Name "zip" p) [a, b] [] pos) (iZipL X.K ta) := by
  intro pins s σ H R I h
  refine Call_ (ld_blt I hg hm boot_zip (PyProof.Rows.callWith_type1 (thn (ha pos pins s σ H _ I h) fun us s1 ⟨vs, H1, I1, r1, q1⟩ => ?_) (star_cons hpl) (star_any (by simp [hpl2]))))
  obtain ⟨a', c', e, ⟨xs, hqa⟩, ⟨ys, hqc⟩, q⟩ := q1
  subst e
  obtain ⟨u, u', rfl, ru, ru'⟩ := vals2 r1
  cases (show u = Value.ref a' from ru)
  cases (show u' = Value.ref c' from ru')
  obtain ⟨its, rv, pt, hz⟩ := I1.list hqa
  obtain ⟨jts, rw', pl, hz2⟩ := I1.list hqc
  have la : a' < s1.heap.objs.size := pt.lt
  have lc : c' < s1.heap.objs.size := pl.lt
  refine call_zip_2 pt.isList pl.isList fun h' hz hTI hTO h1 h2 hsz hk => ?_
  have I2 : Inv X pins σ H1 { s1 with heap := h' } := I1.kept (t' := s1.toks) hk
  refine wpAny_pyIter_zip (s := { s1 with heap := h' }) hz ?_
  refine ⟨s1.heap.objs.size + 4, [s1.heap.objs.size + 4, s1.heap.objs.size + 2, s1.heap.objs.size + 3, s1.heap.objs.size, s1.heap.objs.size + 1], _, _, H1, rfl, I2,
    turn_zipL _ _ _ _ _ a' c' (zipApart_new la lc), ⟨hz, hTI, ⟨_, _, hTO⟩, h1, h2⟩, fun b hb => ?_, q⟩
  have hle : s1.heap.objs.size ≤ b := by
    simp only [List.mem_cons, List.not_mem_nil, or_false] at hb
    rcases hb with rfl | rfl | rfl | rfl | rfl
    · exact Nat.le_add_right _ _
    · exact Nat.le_add_right _ _
    · exact Nat.le_add_right _ _
    · exact Nat.le_refl _
    · exact Nat.le_add_right _ _
  exact I1.fpOk hle (I1.hok.fresh hle)
end L2
set_option Elab.async false
set_option linter.all false
set_option maxRecDepth 100000
set_option maxHeartbeats 4000000
namespace L2
open PySem PySem.Spec PyProof.Rows
theorem for_zipM {K : PySem.W.Frag} {a c : Addr} {xs ys : List V} {g : TG} {tb : TS} {D : Ends} {σ : St} {H : Hp} (Pv : Nat → St → Hp → Prop) (hlen : ys.length ≤ xs.length) (h0 : Pv 0 σ H) (hl : ∀ i σ H, i ≤ ys.length → Pv i σ H → SqL K H a xs ∧ SqL K H c ys)
    (hs : ∀ i x y σ H, xs[i]? = some x → ys[i]? = some y → Pv i σ H → ∀ T H1, Same H H1 → H1 T = some (.tup [x, y]) → g (.ref T) σ H1 fun σ2 H2 => tb { D with nx := Pv (i + 1), ct := Pv (i + 1), bk := D.nx } σ2 H2) (hd : ∀ σ H, Pv ys.length σ H → D.nx σ H) :
    ∃ W : Nat → Nat → St → Hp → Prop, (∃ m, W 0 m σ H) ∧ ∀ i m σ H, W i m σ H →
      ((Itw K a c).stop i H ∧ D.nx σ H) ∨ ((Itw K a c).go i H ∧ ∃ N : St → Hp → Prop, (∀ σ' H', N σ' H' → ∃ m', m' < m ∧ W (i + 1) m' σ' H') ∧ ∀ x H', (Itw K a c).yld i H x H' → g x σ H' fun σ2 H2 => tb { D with nx := N, ct := N, bk := D.nx } σ2 H2) := by
  refine ⟨fun i m σ H => m = ys.length - i ∧ i ≤ ys.length ∧ Pv i σ H, ⟨ys.length, by simp, Nat.zero_le _, h0⟩, ?_⟩
  rintro i m σ H ⟨rfl, hi, p⟩
  obtain ⟨q1, q2⟩ := hl i σ H hi p
  by_cases hlt2 : i < ys.length
  · have hlt : i < xs.length := by omega
    refine .inr ⟨⟨xs, ys, xs[i], ys[i], q1, q2, by simp [hlt], by simp [hlt2]⟩, Pv (i + 1), fun σ' H' p' => ⟨ys.length - (i + 1), by omega, rfl, hlt2, p'⟩, fun x H' y => ?_⟩
    obtain ⟨T, u, v, rfl, hT, rfl, hu, hv⟩ := y
    exact hs i u v σ H (hu xs q1) (hv ys q2) p T _ (same_add hT) upd_same
  · have e : i = ys.length := by omega
    subst e
    exact .inl ⟨⟨xs, ys, q1, q2, .inr (Nat.le_refl _)⟩, hd σ H p⟩
end L2
namespace My
open PySem L2
theorem fan_stop {es : List (Nat × Nat)} {tl : List (Option Nat)} {hub m d : Nat} {F : List Nat} (h : 0 < (both es tl hub (tip es hub (lst F)) m).length) : fanF es tl hub m (d + 1) F = F := by rw [fanF, if_pos h]
theorem fan_end {es : List (Nat × Nat)} {tl : List (Option Nat)} {hub m d : Nat} {F : List Nat} (h : ¬ 0 < (both es tl hub (tip es hub (lst F)) m).length) (e : onw es tl hub m F = []) : fanF es tl hub m (d + 1) F = F := by
  rw [fanF, if_neg h]
  simp only [e]
theorem fan_go {es : List (Nat × Nat)} {tl : List (Option Nat)} {hub m d x : Nat} {F xs : List Nat} (h : ¬ 0 < (both es tl hub (tip es hub (lst F)) m).length) (e : onw es tl hub m F = x :: xs) : fanF es tl hub m (d + 1) F = fanF es tl hub m d (F ++ [x]) := by
  rw [fanF, if_neg h]
  simp only [e]
theorem cut_tail {F : List Nat} (h : 0 < F.length) : cutV (nl F) (some 1) none = nl (F.drop 1) := by
  unfold cutV
  rw [show (1 : Int) = ((1 : Nat) : Int) from rfl, HT.sIx_nat, HT.sIx_none, nl_len, Nat.min_eq_left (show 1 ≤ F.length from h), List.take_of_length_le (by rw [List.length_drop, nl_len]; exact Nat.le_refl _)]
  unfold nl
  rw [List.map_drop]
section
variable {P : Program} {w : World} {K : PySem.W.Frag} {mg : Str → Option Value} {base : Heap}
abbrev sFa : Stmt := top 24
abbrev nFa : List Str := ["net", "tints", "hub", "tie", "many", "fan", "following"]
def spFa : Sp := fun vs H Q _ => ∃ (p r : Addr) (n : Nat) (q : Addr) (ts : List V) (es : List (Nat × Nat)) (tl : List (Option Nat)) (m hub k : Nat), vs = [.ref p, .ref r, .int (hub : Int), .int (k : Int), .int (m : Int)] ∧ FIn H p r n q ts es tl m ∧ k < es.length ∧ At (es.getD k (0, 0)) hub ∧
  ∀ H' l, Same H H' → H' l = some (.lst (nl (fanF es tl hub m es.length [k]))) → Q (.ref l) H'
theorem scFa : FnScope nFa ["net", "tints", "hub", "tie", "many"] (defScope sFa) := ⟨rfl, rfl, rfl, by decide +kernel, rfl, by decide +kernel, by decide +kernel⟩
theorem ok_fa {f : Addr} {fd : FuncData} (F : Fun K "fan_of" "fan_of" sFa f fd) (FFb : FnE P w K mg base "free_at_both" ["net", "tints", "one", "other", "many"] 4 spFb) (FAc : FnE P w K mg base "across" ["net", "tie", "point"] 4 spAc) (FNf : FnE P w K mg base "next_in_fan" ["net", "tints", "hub", "fan", "many"] 4 spNf) :
    FnOk P w K mg base CX0 5 f fd ["net", "tints", "hub", "tie", "many"] spFa := by
  refine F.ok scFa (fun vs H Q E h => ?_) (fun cdv A outer s H vs Q E hr h => ?_)
  · obtain ⟨p, r, n, q, ts, es, tl, m, hub, k, rfl, _⟩ := h
    rfl
  · obtain ⟨p, r, n, qa, ts, es, tl, m, hub, k, rfl, I, hk, hak, q⟩ := h
    refine ⟨_, pss_cons (ps_set (i := 5) scFa.nd rfl (Or.inl rfl) (pe_lst (pa_c (pv 3) pa_nil)))
      (pss_cons (ps_while PassesOwn.never (pt_not (pt_truth (pe_fc FFb hr (pa_c (pv 0) (pa_c (pv 1) (pa_c (pv 2) (pa_c (pe_fc FAc hr (pa_c (pv 0) (pa_c (pe_ix ix_list (pv 5) (pe_un un_neg pe_int) (fun _ _ => rfl)) (pa_c (pv 2) pa_nil)))) (pa_c (pv 4) pa_nil)))))) (fun _ => rfl)))
        (pss_cons (ps_set (i := 6) scFa.nd rfl (Or.inl rfl) (pe_fc FNf hr (pa_c (pv 0) (pa_c (pv 1) (pa_c (pv 2) (pa_c (pv 5) (pa_c (pv 4) pa_nil)))))))
        (pss_cons (ps_if (pt_cmpR op_isN (pv 6) pe_non (nomark _)) (pss_one (ps_ret (pv 5))) pss_nil)
        (pss_one (ps_expr (pe_bm PySem.F.plainAttrs_list PySem.F.slot_list_append PySem.F.type_list_append mt_append (pv 5) (pa_c (pv 6) pa_nil)))))))
      (pss_one (ps_ret (pv 5)))), ?_⟩
    have N := I.N
    have h200 := N.l200
    refine ⟨_, rfl, (by show 1 ≤ sizeLine; decide), fun fa hfa => ?_⟩
    have s0 : Same H (upd H fa (.lst [.int (k : Int)])) := same_new hfa
    refine ⟨fun d σ G => ∃ (F : List Nat) (v6 : Option V), F.length + d = es.length + 1 ∧ σ = [some (.ref p), some (.ref r), some (.int (hub : Int)), some (.int (k : Int)), some (.int (m : Int)), some (.ref fa), v6] ∧ Same H G ∧ G fa = some (.lst (nl F)) ∧ FanOk es tl hub k m F ∧ fanF es tl hub m d F = fanF es tl hub m es.length [k],
      ⟨es.length, [k], _, Nat.add_comm _ _, rfl, s0, upd_same, FanOk.start hk hak, rfl⟩, fun d σ G ⟨F, v6, hd, e, sG, gF, fo, ef⟩ => ?_⟩
    subst e
    have hFl := fo.le
    obtain ⟨d', rfl⟩ : ∃ d', d = d' + 1 := ⟨d - 1, by omega⟩
    have IG := I.same sG
    obtain ⟨hll, _⟩ := fo.at' _ fo.lst_in
    refine ⟨_, rfl, _, rfl, _, rfl, _, rfl, _, rfl, _, rfl, fa, _, _, _, rfl, rfl, SqL.of gF, at_last fo.pos, _, rfl, p, n, qa, ts, es, lst F, hub, rfl, IG.N, hll, _, rfl, p, r, n, qa, ts, es, tl, hub, tip es hub (lst F), m, rfl, IG.N, IG.hR, I.len, I.hm, fun H1 t1 s1 h1 => ?_⟩
    have sG1 := Same.trans sG s1
    by_cases h0 : 0 < (both es tl hub (tip es hub (lst F)) m).length
    · refine ⟨true, .inr (.inl ⟨_, SqT.of h1, ?_⟩), iteF ⟨_, rfl, q H1 fa sG1 (by rw [← ef, fan_stop h0]; exact s1 _ _ gF)⟩⟩
      cases hz : both es tl hub (tip es hub (lst F)) m with
      | nil => rw [hz] at h0; cases h0
      | cons _ _ => rfl
    · refine ⟨false, .inr (.inl ⟨_, SqT.of h1, ?_⟩), iteT ⟨fun σ' G => ∃ m', m' < d' + 1 ∧ ∃ (F : List Nat) (v6 : Option V), F.length + m' = es.length + 1 ∧ σ' = [some (.ref p), some (.ref r), some (.int (hub : Int)), some (.int (k : Int)), some (.int (m : Int)), some (.ref fa), v6] ∧ Same H G ∧ G fa = some (.lst (nl F)) ∧ FanOk es tl hub k m F ∧ fanF es tl hub m m' F = fanF es tl hub m es.length [k], fun _ _ h => h, ?_⟩⟩
      · cases hz : both es tl hub (tip es hub (lst F)) m with
        | nil => rfl
        | cons _ _ => exact absurd (by rw [hz]; exact Nat.succ_pos _) h0
      · have I1 := I.same sG1
        have gF1 := s1 _ _ gF
        refine ⟨_, rfl, _, rfl, _, rfl, _, rfl, _, rfl, p, r, n, qa, ts, es, tl, m, hub, fa, F, rfl, I1, gF1, fo.pos, hll, fun H2 s2 => ?_⟩
        have sG2 := Same.trans sG1 s2
        cases qo : onw es tl hub m F with
        | nil => exact ⟨_, rfl, rfl, _, rfl, iteT ⟨_, rfl, q H2 fa sG2 (by rw [← ef, fan_end h0 qo]; exact s2 _ _ gF1)⟩⟩
        | cons x xs =>
          refine ⟨_, rfl, rfl, _, rfl, iteF ?_⟩
          refine ⟨_, rfl, .inl ⟨rfl, _, SqL.of (s2 _ _ gF1)⟩, _, rfl, fa, _, _, rfl, rfl, s2 _ _ gF1, (by rw [nl_len, sizeLine_eq]; omega), ?_⟩
          refine ⟨d', Nat.lt_succ_self _, F ++ [x], _, ?_, rfl, sG2.wr hfa, ?_, fo.next I.len qo, by rw [← fan_go h0 qo]; exact ef⟩
          · rw [List.length_append, List.length_singleton]; omega
          · rw [upd_same, ← nl_app]
            rfl
abbrev sHn : Stmt := top 25
abbrev nHn : List Str := ["tints", "fan", "last_tint", "steps", "tie", "following"]
def spHn : Sp := fun vs H Q _ => ∃ (r fa : Addr) (tl : List (Option Nat)) (F : List Nat) (la : Nat), vs = [.ref r, .ref fa, .int (la : Int)] ∧ H r = some (.tup (tv tl)) ∧ H fa = some (.lst (nl F)) ∧ 0 < F.length ∧ F.length ≤ 200 ∧ (∀ i b, F[i + 1]? = some b → ∃ t, tl[b]? = some (some t)) ∧
  ∀ H' l, Same H H' → H l = none → ShSt H' l (hnd tl la F) → Q (.ref l) H'
theorem scHn : FnScope nHn ["tints", "fan", "last_tint"] (defScope sHn) := ⟨rfl, rfl, rfl, by decide +kernel, rfl, by decide +kernel, by decide +kernel⟩
theorem ok_hn {f : Addr} {fd : FuncData} (F : Fun K "handed_on" "handed_on" sHn f fd) (T : Bi mg) : FnOk P w K mg base CX0 1 f fd ["tints", "fan", "last_tint"] spHn := by
  refine F.ok scHn (fun vs H Q E h => ?_) (fun cdv A outer s H vs Q E hr h => ?_)
  · obtain ⟨r, fa, tl, F, la, rfl, _⟩ := h
    rfl
  · obtain ⟨r, fa, tl, F, la, rfl, hR, hF, hF0, hF200, hful, q⟩ := h
    refine ⟨_, pss_cons (ps_set (i := 3) scHn.nd rfl (Or.inl rfl) (pe_lst pa_nil))
      (pss_cons (ps_for PassesOwn.never rfl (pi_zipL rfl T.zip (pa_c (pv 1) (pa_c (pe_slice sl_list (pv 1) (po_some pe_int) po_none) pa_nil)) rfl rfl) (pg_tup rfl (pgs_cons (pg_name (i := 4) scHn.nd rfl (Or.inl rfl)) (pgs_cons (pg_name (i := 5) scHn.nd rfl (Or.inl rfl)) pgs_nil)))
        (pss_cons (ps_expr (pe_bm PySem.F.plainAttrs_list PySem.F.slot_list_append PySem.F.type_list_append mt_append (pv 3) (pa_c (pe_tup (pa_c pe_str (pa_c (pv 5) pa_nil))) pa_nil)))
        (pss_one (ps_expr (pe_bm PySem.F.plainAttrs_list PySem.F.slot_list_append PySem.F.type_list_append mt_append (pv 3) (pa_c (pe_tup (pa_c pe_str (pa_c (pv 4) (pa_c (pe_ix ix_tup (pv 0) (pv 5) (fun _ _ => rfl)) pa_nil)))) pa_nil))))))
      (pss_cons (ps_expr (pe_bm PySem.F.plainAttrs_list PySem.F.slot_list_append PySem.F.type_list_append mt_append (pv 3) (pa_c (pe_tup (pa_c pe_str (pa_c (pe_ix ix_list (pv 1) (pe_un un_neg pe_int) (fun _ _ => rfl)) (pa_c (pv 2) pa_nil)))) pa_nil)))
      (pss_one (ps_ret (pv 3))))), ?_⟩
    refine ⟨Nat.zero_le _, fun st hst => ?_⟩
    have s0 : Same H (upd H st (.lst [])) := same_new hst
    refine ⟨_, rfl, _, rfl, _, rfl, fa, _, rfl, SqL.of (s0 _ _ hF), fun c hc => ?_⟩
    rw [cut_tail hF0]
    have ncs : c ≠ st := fun z => by rw [z, upd_same] at hc; cases hc
    have s01 : Same (upd H st (.lst [])) (upd (upd H st (.lst [])) c (.lst (nl (F.drop 1)))) := same_new hc
    have s1 := Same.trans s0 s01
    have dl : (F.drop 1).length = F.length - 1 := List.length_drop
    refine ⟨fa, c, rfl, ⟨_, SqL.of (s1 _ _ hF)⟩, ⟨_, SqL.of upd_same⟩, for_zipM (K := K) (a := fa) (c := c) (xs := nl F) (ys := nl (F.drop 1)) (fun i σ G => ∃ (tr : List (Addr × Stp)) (v4 v5 : Option V), σ = [some (.ref r), some (.ref fa), some (.int (la : Int)), some (.ref st), v4, v5] ∧ Same H G ∧ G c = some (.lst (nl (F.drop 1))) ∧ G st = some (.lst (tr.map fun x => V.ref x.1)) ∧ tr.length = 2 * i ∧ (∀ x ∈ tr, G x.1 = some (.tup (stV x.2))) ∧ tr.map (·.2) ++ hnd tl la (F.drop i) = hnd tl la F)
      (by rw [nl_len, nl_len]; omega) ⟨[], _, _, rfl, s1, upd_same, s01 _ _ upd_same, rfl, (fun x hx => by cases hx), rfl⟩ (fun i σ G _ ⟨tr, v4, v5, _, sG, gc, _⟩ => ⟨SqL.of (sG _ _ hF), SqL.of gc⟩) (fun i x y σ G hx hy ⟨tr, v4, v5, e, sG, gc, gs, htr, hU, hE⟩ TT G1 u1 hTT => ?_) (fun σ G ⟨tr, v4, v5, e, sG, gc, gs, htr, hU, hE⟩ => ?_)⟩
    · subst e
      obtain ⟨a, ha, rfl⟩ := nl_inv hx
      obtain ⟨b, hb, rfl⟩ := nl_inv hy
      have hb' : F[i + 1]? = some b := by rw [List.getElem?_drop, Nat.add_comm] at hb; exact hb
      obtain ⟨t, ht⟩ := hful i b hb'
      have hil : i + 1 < F.length := (List.getElem?_eq_some_iff.mp hb').1
      have sG1 := Same.trans sG u1
      refine ⟨TT, _, rfl, SqT.of hTT, rfl, _, _, rfl, _, _, rfl, rfl, ?_⟩
      refine ⟨_, rfl, .inl ⟨rfl, _, SqL.of (u1 _ _ gs)⟩, _, rfl, (by show 2 ≤ sizeLine; decide), fun w1 hw1 => ⟨st, _, _, rfl, rfl, same_new hw1 _ _ (u1 _ _ gs), (by rw [List.length_map, sizeLine_eq]; omega), ?_⟩⟩
      have g2s : (upd G1 w1 (.tup [.str "bare", .int (b : Int)])) st = some (.lst (tr.map fun x => V.ref x.1)) := same_new hw1 _ _ (u1 _ _ gs)
      have t2 : Tk G1 (upd (upd G1 w1 (.tup [.str "bare", .int (b : Int)])) st (.lst ((tr.map fun x => V.ref x.1) ++ [.ref w1]))) := Tk.trans (Same.tk (same_new hw1)) (tk_lst g2s)
      have k2 : ∀ q xs, q ≠ st → G1 q = some (.lst xs) → (upd (upd G1 w1 (.tup [.str "bare", .int (b : Int)])) st (.lst ((tr.map fun x => V.ref x.1) ++ [.ref w1]))) q = some (.lst xs) := fun q xs hq e => by rw [upd_ne hq]; exact same_new hw1 _ _ e
      have s2 : Same H (upd (upd G1 w1 (.tup [.str "bare", .int (b : Int)])) st (.lst ((tr.map fun x => V.ref x.1) ++ [.ref w1]))) := (Same.trans sG1 (same_new hw1)).wr hst
      have w12 : (upd (upd G1 w1 (.tup [.str "bare", .int (b : Int)])) st (.lst ((tr.map fun x => V.ref x.1) ++ [.ref w1]))) w1 = some (.tup (stV (.bare b))) := by rw [upd_ne (Ne.symm (ne_of_none (u1 _ _ gs) hw1))]; exact upd_same
      have gs2 : (upd (upd G1 w1 (.tup [.str "bare", .int (b : Int)])) st (.lst ((tr.map fun x => V.ref x.1) ++ [.ref w1]))) st = some (.lst ((tr.map fun x => V.ref x.1) ++ [.ref w1])) := upd_same
      generalize upd (upd G1 w1 (.tup [.str "bare", .int (b : Int)])) st (.lst ((tr.map fun x => V.ref x.1) ++ [.ref w1])) = G2 at t2 k2 s2 w12 gs2 ⊢
      refine ⟨_, rfl, .inl ⟨rfl, _, SqL.of gs2⟩, _, rfl, _, rfl, _, rfl, r, _, _, _, rfl, rfl, SqT.of (s2 _ _ hR), atI_nat (tv_get ht), (by show 3 ≤ sizeLine; decide), fun w2 hw2 => ⟨st, _, _, rfl, rfl, same_new hw2 _ _ gs2, (by rw [List.length_append, List.length_map, sizeLine_eq]; simp only [List.length_singleton]; omega), ?_⟩⟩
      have g3s := same_new (o := HO.tup [.str "tint", .int (a : Int), tN (some t)]) hw2 _ _ gs2
      have t3 := Tk.trans (Same.tk (same_new (o := HO.tup [.str "tint", .int (a : Int), tN (some t)]) hw2)) (tk_lst (ys := ((tr.map fun x => V.ref x.1) ++ [.ref w1]) ++ [.ref w2]) g3s)
      refine ⟨tr ++ [(w1, .bare b), (w2, .tint a t)], _, _, rfl, (Same.trans s2 (same_new hw2)).wr hst, ?_, ?_, ?_, fun x hx => ?_, ?_⟩
      · rw [upd_ne ncs]
        exact same_new hw2 _ _ (k2 _ _ ncs (u1 _ _ gc))
      · rw [upd_same, List.map_append, List.append_assoc]
        rfl
      · rw [List.length_append]
        show tr.length + 2 = _
        omega
      · rcases List.mem_append.mp hx with hx | hx
        · exact t3 _ _ (t2 _ _ (u1 _ _ (hU x hx)))
        · simp only [List.mem_cons, List.not_mem_nil, or_false] at hx
          rcases hx with rfl | rfl
          · exact t3 _ _ w12
          · show (upd (upd G2 w2 _) st _) w2 = _
            rw [upd_ne (Ne.symm (ne_of_none gs2 hw2))]
            exact upd_same
      · rw [← hE]
        have e1 : F.drop i = a :: b :: F.drop (i + 2) := by
          rw [List.drop_eq_getElem_cons (by omega), List.drop_eq_getElem_cons (i := i + 1) hil]
          rw [List.getElem?_eq_getElem (by omega)] at ha hb'
          rw [Option.some.inj ha, Option.some.inj hb']
        have e2 : F.drop (i + 1) = b :: F.drop (i + 2) := by
          rw [List.drop_eq_getElem_cons hil]
          rw [List.getElem?_eq_getElem hil] at hb'
          rw [Option.some.inj hb']
        have e3 : (tl.getD b none).getD 0 = t := by rw [List.getD_eq_getElem?_getD, ht]; rfl
        rw [e1, e2, hnd, e3, List.map_append, List.append_assoc]
        rfl
    · subst e
      rw [nl_len, dl] at htr hE
      have sp : F.drop (F.length - 1) = [lst F] := by
        have e := lst_get hF0
        rw [List.drop_eq_getElem_cons (by omega)]
        rw [List.getElem?_eq_getElem (by omega)] at e
        rw [Option.some.inj e, show F.length - 1 + 1 = F.length by omega, List.drop_length]
      rw [sp] at hE
      refine ⟨_, rfl, .inl ⟨rfl, _, SqL.of gs⟩, _, rfl, _, rfl, fa, _, _, _, rfl, rfl, SqL.of (sG _ _ hF), at_last hF0, _, rfl, (by show 3 ≤ sizeLine; decide), fun w1 hw1 => ⟨st, _, _, rfl, rfl, same_new hw1 _ _ gs, (by rw [List.length_map, sizeLine_eq]; omega), ?_⟩⟩
      have g2s := same_new (o := HO.tup [.str "tint", .int (lst F : Int), .int (la : Int)]) hw1 _ _ gs
      have t2 := Tk.trans (Same.tk (same_new (o := HO.tup [.str "tint", .int (lst F : Int), .int (la : Int)]) hw1)) (tk_lst (ys := (tr.map fun x => V.ref x.1) ++ [.ref w1]) g2s)
      refine ⟨_, rfl, q _ st ((Same.trans sG (same_new hw1)).wr hst) hst ⟨tr ++ [(w1, .tint (lst F) la)], ?_, ?_, fun x hx => ?_⟩⟩
      · rw [upd_same, List.map_append]
        rfl
      · rw [← hE, List.map_append]
        rfl
      · rcases List.mem_append.mp hx with hx | hx
        · exact t2 _ _ (hU x hx)
        · rw [List.mem_singleton.mp hx]
          show (upd (upd G w1 _) st _) w1 = _
          rw [upd_ne (Ne.symm (ne_of_none gs hw1))]
          exact upd_same
end
end My
set_option Elab.async false
set_option linter.all false
set_option maxRecDepth 100000
set_option maxHeartbeats 4000000
namespace L2
open PySem PySem.Spec PyProof.Rows
def rIndexN (K : PySem.W.Frag) : V → List V → Hp → VK → Prop := fun x vs H Q => ∃ l, ∃ xs : List V, ∃ k : Int, ∃ j : Nat, x = .ref l ∧ vs = [.int k] ∧ SqL K H l xs ∧ (∀ x ∈ xs, x = .non ∨ ∃ i, x = .int i) ∧ xs[j]? = some (.int k) ∧ (∀ i : Nat, i < j → xs[i]? ≠ some (.int k)) ∧ Q (.int (j : Int)) H
theorem isInt_rel {k : Int} {x : V} {u : Value} (h : x = .non ∨ ∃ i, x = .int i) (r : RelV x u) : (isInt k u = true ↔ x = .int k) ∧ ∀ (A : Around) (s : Shared) (t : Tok), PySem.SeqAt.EqAt A s u (.int k t) (isInt k u) := by
  rcases h with rfl | ⟨i, rfl⟩
  · cases (show u = Value.none from r)
    exact ⟨⟨fun z => (by cases z), fun z => (by cases z)⟩, fun A s t => PySem.SeqAt.EqAt.none_int k t⟩
  · obtain ⟨t', rfl⟩ := (show ∃ t, u = Value.int i t from r)
    refine ⟨⟨fun z => by rw [eq_of_beq (show (i == k) = true from z)], fun z => by cases z; exact beq_self_eq_true k⟩, fun A s t => PySem.SeqAt.EqAt.int_int i t' k t⟩
theorem mt_indexN {X : Cx} {K : PySem.W.Frag} (hK : X.K = K) : MtM X "list.index" (rIndexN K) := by
  subst hK
  intro pins s σ H x vs v us Q I rx rv h
  obtain ⟨l, xs, k, j, rfl, rfl, hH, hfl, h1, h2, q⟩ := h
  cases rx
  obtain ⟨u, rfl, ru⟩ := rv.one
  obtain ⟨t, rfl⟩ := (show ∃ t, u = Value.int k t from ru)
  obtain ⟨its, r, pl, hz'⟩ := I.list hH
  have hvl := r.length
  have hjx := (List.getElem?_eq_some_iff.mp h1).1
  have val : ∀ (i : Nat) (hi : i < its.length), ∃ x, xs[i]? = some x ∧ RelV x its[i] := fun i hi => by
    have e := List.getElem?_eq_getElem (show i < xs.length by omega)
    obtain ⟨u, hu, ru⟩ := r.get e
    rw [List.getElem?_eq_getElem hi] at hu
    cases hu
    exact ⟨_, e, ru⟩
  obtain ⟨⟨cls, dd, data, sl⟩, ho, hc, n, hd⟩ := pl.isList
  simp only at hc hd
  subst hc hd
  rw [sizeLine_eq] at hz'
  refine call_meets PySem.F.slot_list_index ⟨_, ho, rfl⟩ PySem.F.entry_list_index (PySem.F.args_list_index_2 _ _) (PySem.SeqAt.list_indexAt l its.toArray n dd sl (.int k t) (isInt k) j (by rw [List.size_toArray]; omega) (by omega) ?_ ?_) ⟨ho, fun y hy => ?_, ⟨.int (j : Int), H, I.tok _, ⟨_, rfl⟩, q⟩⟩
  · rw [List.getElem_toArray]
    obtain ⟨x, e, r1⟩ := val j (by omega)
    rw [h1] at e
    cases e
    exact (isInt_rel (.inr ⟨_, rfl⟩) r1).1.mpr rfl
  · intro i hm hij
    rw [List.size_toArray] at hm
    rw [List.getElem_toArray]
    obtain ⟨x, e, r1⟩ := val i hm
    exact Bool.eq_false_iff.mpr fun z => h2 i hij (by rw [e, (isInt_rel (hfl x (List.mem_of_getElem? e)) r1).1.mp z])
  · have hy' : y ∈ its := by simpa using hy
    obtain ⟨i, hi⟩ := List.mem_iff_getElem?.mp hy'
    obtain ⟨hil, hie⟩ := List.getElem?_eq_some_iff.mp hi
    obtain ⟨x, e, r1⟩ := val i hil
    rw [hie] at r1
    exact (isInt_rel (hfl x (List.mem_of_getElem? e)) r1).2 _ _ _
end L2
set_option Elab.async false
set_option linter.all false
set_option maxRecDepth 100000
set_option maxHeartbeats 4000000
namespace My
open PySem L2
theorem cut_head (F : List Nat) (i : Nat) : cutV (nl F) none (some (i : Int)) = nl (F.take i) := by
  unfold cutV
  rw [HT.sIx_none, HT.sIx_nat, List.drop_zero, nl_len, Nat.sub_zero]
  unfold nl
  rw [← List.map_take]
  congr 1
  rcases Nat.le_total i F.length with h | h
  · rw [Nat.min_eq_left h]
  · rw [Nat.min_eq_right h, List.take_length, List.take_of_length_le h]
theorem gd_iff {tl : List (Option Nat)} {x t : Nat} : decide (tl.getD x none = some t) = true ↔ tl[x]? = some (some t) := by
  rw [decide_eq_true_eq, List.getD_eq_getElem?_getD]
  cases q : tl[x]? with
  | none => exact ⟨fun z => (by cases z), fun z => (by cases z)⟩
  | some o => exact ⟨fun z => congrArg some z, fun z => Option.some.inj z⟩
theorem plc_first {tl : List (Option Nat)} {F : List Nat} {t : Nat} {i x : Nat} (hi : i < plc tl F t) (hx : F[i]? = some x) : tl[x]? ≠ some (some t) := by
  unfold plc at hi
  cases q : F.findIdx? fun x => decide (tl.getD x none = some t) with
  | none => rw [q] at hi; exact absurd hi (Nat.not_lt_zero _)
  | some j =>
    rw [q] at hi
    obtain ⟨hj, _, h2⟩ := List.findIdx?_eq_some_iff_getElem.mp q
    intro z
    have := h2 i hi
    obtain ⟨hl, e⟩ := List.getElem?_eq_some_iff.mp hx
    rw [e] at this
    exact this (gd_iff.mpr z)
structure ThIn (es : List (Nat × Nat)) (tl : List (Option Nat)) (hub k m n : Nat) (F : List Nat) : Prop where
  pl : PlainN es
  hC : CleanTo es tl es.length
  hb : tl[k]? = some none
  hM : ∃ M, (∀ x, x < n → dg es es.length x ≤ M) ∧ M < m
  hn : hub < n
  fo : FanOk es tl hub k m F
  h0 : ¬ 0 < (both es tl hub (tip es hub (lst F)) m).length
  hon : onw es tl hub m F = []
theorem frees_pos' {es : List (Nat × Nat)} {tl : List (Option Nat)} {x m M : Nat} (h : dg es es.length x ≤ M) (hm : M < m) : 0 < (frees es tl x m).length := by
  have h1 := frees_ct es tl x m
  have h2 := ct_le es tl x
  omega
def bmE : Stmt → Expr
  | .Assign _ (.Call (.Attribute e _ _) _ _ _) _ => e
  | _ => .Constant .none 0 ⟨0, 0, 0, 0⟩
section
variable {P : Program} {w : World} {K : PySem.W.Frag} {mg : Str → Option Value} {base : Heap}
abbrev sTh : Stmt := top 26
abbrev thS : Scope := compScope (bmE (stOf 26 3))
abbrev nTh : List Str := ["net", "tints", "hub", "fan", "many", "one", "other", "behind", "place", "tip", "used"]
def spTh : Sp := fun vs H Q _ => ∃ (p r : Addr) (n : Nat) (q : Addr) (ts : List V) (es : List (Nat × Nat)) (tl : List (Option Nat)) (m hub k : Nat) (fa : Addr) (F : List Nat), vs = [.ref p, .ref r, .int (hub : Int), .ref fa, .int (m : Int)] ∧ FIn H p r n q ts es tl m ∧ es.length < 64 ∧ H fa = some (.lst (nl F)) ∧ ThIn es tl hub k m n F ∧
  ∀ H' l, Same H H' → H l = none → ShSt H' l (turnOf es tl hub m F) → Q (.ref l) H'
theorem ndTh : (["tie", "tints"] : List Str).Nodup := by decide +kernel
theorem scTh : FnScope nTh ["net", "tints", "hub", "fan", "many"] (defScope sTh) := ⟨rfl, rfl, rfl, by decide +kernel, rfl, by decide +kernel, by decide +kernel⟩
theorem blkTh {f : Addr} {cdv : Value} {A : Around} {outer : List Env} {s : Shared} {H : Hp} {E : XK} :
    Blk (cxOf CX0 P w K mg base nTh "turned_and_handed_on" (defScope sTh) f cdv A outer s H E).nox thS [("tints", s.heap.objs.size + 1)] ["tie", "tints"] [none, some 1] := by
  refine ⟨rfl, rfl, by decide +kernel, by decide +kernel, fun p hp => ?_, fun y hy e => ?_, ⟨rfl, rfl, rfl⟩, trivial⟩
  · rw [List.mem_singleton.mp hp]
    rfl
  · have hy' : y ∈ [((PySem.Str.ofString ".0" : Str), NameKind.local), (PySem.Str.ofString "tie", .local), (PySem.Str.ofString "tints", .free)] := hy
    simp only [List.mem_cons, List.not_mem_nil, or_false] at hy'
    rcases hy' with rfl | rfl | rfl <;> first | rfl | cases e
theorem ok_th {f : Addr} {fd : FuncData} (F : Fun K "turned_and_handed_on" "turned_and_handed_on" sTh f fd) (FFt : FnE P w K mg base "free_tints" ["net", "tints", "point", "many"] 4 spFt) (FAc : FnE P w K mg base "across" ["net", "tie", "point"] 4 spAc) (FTu : FnE P w K mg base "turned" ["net", "tints", "point", "one", "other"] 4 spTu) (FHn : FnE P w K mg base "handed_on" ["tints", "fan", "last_tint"] 4 spHn) :
    FnOk P w K mg base CX0 5 f fd ["net", "tints", "hub", "fan", "many"] spTh := by
  refine F.ok scTh (fun vs H Q E h => ?_) (fun cdv A outer s H vs Q E hr h => ?_)
  · obtain ⟨p, r, n, q, ts, es, tl, m, hub, k, fa, F, rfl, _⟩ := h
    rfl
  · obtain ⟨p, r, n, qa, ts, es, tl, m, hub, k, fa, F, rfl, I, h64, hF, hT, q⟩ := h
    refine ⟨_, pss_cons (ps_set (i := 5) scTh.nd rfl (Or.inl rfl) (pe_ix ix_tup (pe_fc FFt hr (pa_c (pv 0) (pa_c (pv 1) (pa_c (pv 2) (pa_c (pv 4) pa_nil))))) pe_int (fun _ _ => rfl)))
      (pss_cons (ps_set (i := 6) scTh.nd rfl (Or.inl rfl) (pe_ix ix_tup (pe_fc FFt hr (pa_c (pv 0) (pa_c (pv 1) (pa_c (pe_fc FAc hr (pa_c (pv 0) (pa_c (pe_ix ix_list (pv 3) (pe_un un_neg pe_int) (fun _ _ => rfl)) (pa_c (pv 2) pa_nil)))) (pa_c (pv 4) pa_nil))))) pe_int (fun _ _ => rfl)))
      (pss_cons (ps_set (i := 7) scTh.nd rfl (Or.inl rfl) (pe_fc FTu hr (pa_c (pv 0) (pa_c (pv 1) (pa_c (pv 2) (pa_c (pv 5) (pa_c (pv 6) pa_nil)))))))
      (pss_cons (ps_set (i := 8) scTh.nd rfl (Or.inl rfl) (pe_bm PySem.F.plainAttrs_list PySem.F.slot_list_index PySem.F.type_list_index (mt_indexN (K := K) rfl) (pe_lcL blkTh rfl (pv 3) (mono_var 3) (fun C fp s H => pg_name (i := 0) ndTh rfl (Or.inl rfl)) (fun C fp s H => pts_nil) (fun C fp s H => pe_ix (ix_tupX (K := K) rfl) (pv 1) (pv 0) (fun _ _ => rfl))) (pa_c (pv 6) pa_nil)))
      (pss_cons (ps_set (i := 9) scTh.nd rfl (Or.inl rfl) (pe_fc FAc hr (pa_c (pv 0) (pa_c (pe_ix ix_list (pv 3) (pe_op op_sub (pv 8) pe_int) (fun _ _ => rfl)) (pa_c (pv 2) pa_nil)))))
      (pss_cons (ps_set (i := 10) scTh.nd rfl (Or.inl rfl) (pe_ifExp (pt_cmpR op_in_seq (pv 6) (pe_fc FFt hr (pa_c (pv 0) (pa_c (pv 7) (pa_c (pv 9) (pa_c (pv 4) pa_nil))))) rfl) (pe_slice sl_list (pv 3) po_none (po_some (pv 8))) (pv 3)))
      (pss_one (ps_ret (pe_op op_cat (pe_lst (pa_c (pe_tupS (pa_c pe_str (pa_c (pv 2) (pa_c (pv 5) (pa_c (pv 6) pa_nil))))) pa_nil)) (pe_fc FHn hr (pa_c (pv 7) (pa_c (pv 10) (pa_c (pv 6) pa_nil)))))))))))), ?_⟩
    have N := I.N
    have h200 := N.l200
    obtain ⟨M, hM, hm⟩ := hT.hM
    obtain ⟨_, xs0, p1, p2, pc0⟩ := turn_ok N.ok hT.pl hT.hC I.len hT.hb hM hm hT.hn hT.fo hT.h0 hT.hon
    have fo := hT.fo
    obtain ⟨hll, hla⟩ := fo.at' _ fo.lst_in
    have htl := tip_lt (hub := hub) N.ok hll
    have f1 := frees_pos' (tl := tl) (hM hub hT.hn) hm
    have f2 := frees_pos' (tl := tl) (hM _ htl) hm
    have hFl := fo.le
    have hle : ∀ x ∈ F, x < es.length := fun x hx => (fo.at' x hx).1
    refine ⟨_, rfl, _, rfl, _, rfl, _, rfl, p, r, n, qa, ts, es, tl, hub, m, rfl, N, I.hR, I.len, I.hm, fun H1 t1 s1 h1 => ⟨t1, _, _, _, rfl, rfl, SqT.of h1, atI_nat (j := 0) (nl_get (head_get f1)), ?_⟩⟩
    have I1 := I.same s1
    refine ⟨_, rfl, _, rfl, _, rfl, _, rfl, _, rfl, fa, _, _, _, rfl, rfl, SqL.of (s1 _ _ hF), at_last fo.pos, _, rfl, p, n, qa, ts, es, lst F, hub, rfl, I1.N, hll, _, rfl, p, r, n, qa, ts, es, tl, tip es hub (lst F), m, rfl, I1.N, I1.hR, I.len, I.hm, fun H2 t2 s2 h2 => ⟨t2, _, _, _, rfl, rfl, SqT.of h2, atI_nat (j := 0) (nl_get (head_get f2)), ?_⟩⟩
    have I2 := I1.same s2
    have s12 := Same.trans s1 s2
    refine ⟨_, rfl, _, rfl, _, rfl, _, rfl, _, rfl, p, r, n, qa, ts, es, tl, hub, oneOf es tl hub m, othOf es tl hub m F, rfl, I2.N, I2.hR, I.len, h64, fun H3 b3 S s3 h3 hS hRT => ?_⟩
    have eS := chS_eq hS hRT
    subst eS
    have s13 := Same.trans s12 s3
    have I3 := I2.same s3
    have hF3 := s13 _ _ hF
    have eb : trn tl (oneOf es tl hub m) (othOf es tl hub m F) (chS es tl (oneOf es tl hub m) (othOf es tl hub m F) hub) = bhOf es tl hub m F := rfl
    rw [eb] at h3
    have blen : (bhOf es tl hub m F).length = es.length := by rw [← eb, trn_len]; exact I.len
    have bbare : ∀ j, (bhOf es tl hub m F)[j]? = some none ↔ tl[j]? = some none := fun j => by
      rw [← eb]
      exact bare_trn fun j hj => ((hRT j).mp hj).2.1
    refine ⟨_, rfl, fa, _, rfl, SqL.of hF3, (by rw [nl_len]; omega), fun i ys σ G => Same H3 G ∧ ys = (F.take i).map (fun x => tN (tl.getD x none)) ∧ ∃ v0, σ = [v0, some (.ref r)], ⟨Same.refl _, rfl, none, rfl⟩, fun i ys σ G hi ⟨sG, e, _⟩ => ⟨SqL.of (sG _ _ hF3), by subst e; rw [List.length_map, List.length_take]; omega⟩, fun i x ys σ G hx ⟨sG, e1, v0, e⟩ => ?_, fun ys σ G ⟨sG, e1, _⟩ pl H4 s4 hpl => ?_⟩
    · subst e1 e
      obtain ⟨y, hy, rfl⟩ := nl_inv hx
      have hgt := List.getElem?_eq_getElem (show y < tl.length by rw [I.len]; exact hle y (List.mem_of_getElem? hy))
      refine ⟨_, rfl, _, rfl, r, _, _, _, rfl, rfl, SqT.of (sG _ _ I3.hR), atI_nat (tv_get hgt), sG, ?_, _, rfl⟩
      rw [List.take_add_one, hy]
      show List.map _ (F.take i) ++ [_] = List.map _ (F.take i ++ [y])
      rw [List.map_append, List.map_singleton, List.getD_eq_getElem?_getD, hgt]
      rfl
    subst e1
    rw [nl_len, List.take_length] at hpl
    have s34 := Same.trans sG s4
    have s14 := Same.trans s13 s34
    have I4 := I3.same s34
    refine ⟨.inl ⟨rfl, _, SqL.of hpl⟩, _, rfl, pl, _, _, plc tl F (othOf es tl hub m F), rfl, rfl, SqL.of hpl, fun x hx => ?_, ?_, fun i hi z => ?_, ?_⟩
    · obtain ⟨y, _, rfl⟩ := List.mem_map.mp hx
      cases tl.getD y none with
      | none => exact .inl rfl
      | some t => exact .inr ⟨_, rfl⟩
    · rw [List.getElem?_map, p1]
      show some (tN (tl.getD xs0 none)) = _
      rw [List.getD_eq_getElem?_getD, p2]
      rfl
    · rw [List.getElem?_map] at z
      cases hx : F[i]? with
      | none => rw [hx] at z; cases z
      | some x =>
        rw [hx] at z
        have z2 : tN (tl.getD x none) = tN (some (othOf es tl hub m F)) := Option.some.inj z
        refine plc_first hi hx (gd_iff.mp (decide_eq_true ?_))
        cases q : tl.getD x none with
        | none => rw [q] at z2; cases z2
        | some t =>
          rw [q] at z2
          have := V.int.inj z2
          rw [show t = othOf es tl hub m F by omega]
    obtain ⟨q0, hq0⟩ : ∃ a, F[plc tl F (othOf es tl hub m F) - 1]? = some a := ⟨_, List.getElem?_eq_getElem (by have := (List.getElem?_eq_some_iff.mp p1).1; omega)⟩
    have q0l := hle q0 (List.mem_of_getElem? hq0)
    have gdq : F.getD (plc tl F (othOf es tl hub m F) - 1) 0 = q0 := by rw [List.getD_eq_getElem?_getD, hq0]; rfl
    refine ⟨_, rfl, _, rfl, _, rfl, _, _, rfl, rfl, fa, _, _, _, rfl, rfl, SqL.of (s14 _ _ hF), (by rw [show ((plc tl F (othOf es tl hub m F) : Nat) : Int) - 1 = ((plc tl F (othOf es tl hub m F) - 1 : Nat) : Int) by omega]; exact atI_nat (nl_get hq0)), _, rfl, p, n, qa, ts, es, q0, hub, rfl, I4.N, q0l, ?_⟩
    refine ⟨_, rfl, _, rfl, _, rfl, _, rfl, _, rfl, p, b3, n, qa, ts, es, bhOf es tl hub m F, oth (es.getD q0 (0, 0)) hub, m, rfl, I4.N, s34 _ _ h3, blen, I.hm, fun H5 t5 s5 h5 => ⟨t5, _, rfl, .inr (SqT.of h5), rfl, flat_nl _, _, rfl, ?_⟩⟩
    have s15 := Same.trans s14 s5
    have hB5 := s5 _ _ (s34 _ _ h3)
    have fin : ∀ (H6 : Hp) (ua : Addr) (U : List Nat), Same H5 H6 → H6 ua = some (.lst (nl U)) → U = usedOf es tl hub m F → 0 < U.length → U.length ≤ F.length → (∀ i b, U[i + 1]? = some b → F[i + 1]? = some b) → ∀ (a1 : Addr) (G1 : Hp), Same H6 G1 → G1 a1 = some (.tup [.str "turn", .int (hub : Int), .int (oneOf es tl hub m : Int), .int (othOf es tl hub m F : Int)]) → ∀ l4, G1 l4 = none → ∀ E, spHn [.ref b3, .ref ua, .int (othOf es tl hub m F : Int)] (upd G1 l4 (.lst [.ref a1])) (fun y H2 => rCat (.ref l4) y H2 Q) E := fun H6 ua U s6 hu eU hU0 hUl hUs a1 G1 u1 g1 l4 hl4 E => by
      have sl4 := same_new (o := HO.lst [V.ref a1]) hl4
      refine ⟨b3, ua, bhOf es tl hub m F, U, othOf es tl hub m F, rfl, sl4 _ _ (u1 _ _ (s6 _ _ hB5)), sl4 _ _ (u1 _ _ hu), hU0, by omega, fun i b hi => ?_, fun H8 l8 s8 n8 ⟨tr, h8a, h8b, h8c⟩ => ?_⟩
      · have hb := hUs i b hi
        have hil := (List.getElem?_eq_some_iff.mp hb).1
        obtain ⟨t, _, tb, _⟩ := fo.seq i _ b (List.getElem?_eq_getElem (by omega)) hb
        have hbl := hle b (List.mem_of_getElem? hb)
        have e := List.getElem?_eq_getElem (show b < (bhOf es tl hub m F).length by omega)
        cases q : (bhOf es tl hub m F)[b]'(by omega) with
        | none =>
          rw [q] at e
          have := (bbare b).mp e
          rw [tb] at this
          cases this
        | some t' => rw [q] at e; exact ⟨t', e⟩
      · have hlen := congrArg List.length h8b
        have hh := hnd_len (bhOf es tl hub m F) (othOf es tl hub m F) U
        rw [List.length_map] at hlen
        refine ⟨l4, l8, _, _, rfl, rfl, s8 _ _ upd_same, h8a, (by rw [List.length_map, sizeLine_eq]; show 1 + tr.length ≤ _; omega), fun l9 hl9 => ?_⟩
        have s18 := Same.trans s15 (Same.trans s6 (Same.trans u1 (Same.trans sl4 s8)))
        refine q _ l9 (Same.trans s18 (same_new hl9)) (s18.none hl9) ?_
        refine ⟨(a1, .turn hub (oneOf es tl hub m) (othOf es tl hub m F)) :: tr, upd_same, ?_, fun x hx => ?_⟩
        · rw [List.map_cons, h8b, eU]
          rfl
        · rcases List.mem_cons.mp hx with rfl | hx
          · exact same_new hl9 _ _ (s8 _ _ (sl4 _ _ g1))
          · exact same_new hl9 _ _ (h8c x hx)
    have pcl := (List.getElem?_eq_some_iff.mp p1).1
    refine ite2 (fun z => ?_) (fun z => ?_)
    · have hin : othOf es tl hub m F ∈ frees es (bhOf es tl hub m F) (tip es hub q0) m := (in_nl _ _).mp z
      have eU : F.take (plc tl F (othOf es tl hub m F)) = usedOf es tl hub m F := by unfold usedOf; rw [gdq, if_pos hin]
      refine ⟨_, rfl, _, rfl, _, rfl, fa, _, rfl, SqL.of (s15 _ _ hF), fun ua hua => ?_⟩
      rw [cut_head]
      exact ⟨_, rfl, _, rfl, _, rfl, rfl, fun a1 G1 u1 g1 => ⟨(by show 1 ≤ sizeLine; decide), fun l4 hl4 => ⟨_, rfl, _, rfl, _, rfl, fin _ ua _ (same_new hua) upd_same eU (by rw [List.length_take]; omega) (by rw [List.length_take]; omega) (fun i b hi => by
        rw [List.getElem?_take_of_lt (by have := (List.getElem?_eq_some_iff.mp hi).1; rw [List.length_take] at this; omega)] at hi
        exact hi) a1 G1 u1 g1 l4 hl4 E0⟩⟩⟩
    · have hin : ¬ othOf es tl hub m F ∈ frees es (bhOf es tl hub m F) (tip es hub q0) m := fun y => z ((in_nl _ _).mpr y)
      have eU : F = usedOf es tl hub m F := by unfold usedOf; rw [gdq, if_neg hin]
      exact ⟨_, rfl, _, rfl, _, rfl, _, rfl, rfl, fun a1 G1 u1 g1 => ⟨(by show 1 ≤ sizeLine; decide), fun l4 hl4 => ⟨_, rfl, _, rfl, _, rfl, fin H5 fa F (Same.refl _) (s15 _ _ hF) eU fo.pos (Nat.le_refl _) (fun _ _ h => h) a1 G1 u1 g1 l4 hl4 E0⟩⟩⟩
end
end My
set_option Elab.async false
set_option linter.all false
set_option maxRecDepth 100000
set_option maxHeartbeats 4000000
namespace My
open PySem L2
noncomputable def putF (es : List (Nat × Nat)) (tl : List (Option Nat)) (k m : Nat) : List Stp :=
  if 0 < (both es tl (es.getD k (0, 0)).1 (es.getD k (0, 0)).2 m).length then [.tint k ((both es tl (es.getD k (0, 0)).1 (es.getD k (0, 0)).2 m).getD 0 0)] else roomF es tl k m
theorem putF_ok {es : List (Nat × Nat)} {tl : List (Option Nat)} {k m n M : Nat} (ok : ∀ e ∈ es, e.1 < n ∧ e.2 < n ∧ e.1 ≠ e.2) (pl : PlainN es) (hC : CleanTo es tl es.length) (hl : tl.length = es.length) (hk : k < es.length) (hb : tl[k]? = some none) (hM : ∀ x, x < n → dg es es.length x ≤ M) (hm : M < m) : ResF es tl k m n (putF es tl k m) := by
  unfold putF
  split
  · rename_i h0
    obtain ⟨t1, t2, t3⟩ := both_mem.mp (head_mem h0)
    have c1 := clean_set hC hl hk t2 t3
    have hn := (ok _ (getD_mem hk)).1
    refine ⟨⟨_, .cons (s := .tint k _) ⟨hk, t1⟩ rfl c1 .nil, by rw [List.length_set]; exact hl, c1, ⟨_, by rw [List.getElem?_set, if_pos rfl, if_pos (by omega)]⟩, fun j hj => by rw [List.getElem?_set, if_neg (fun z => hj z.symm)], [], Nat.zero_le _, fun j hj z => absurd (by rw [List.getElem?_set, if_neg (fun z => hj z.symm)]) z⟩, ?_⟩
    show 1 ≤ _
    omega
  · exact room_ok ok pl hC hl hk hb hM hm
section
variable {P : Program} {w : World} {K : PySem.W.Frag} {mg : Str → Option Value} {base : Heap} {cM : Addr}
abbrev sNd : Stmt := inClass (top 27) 0
abbrev sAk : Stmt := inClass (top 27) 1
abbrev sMr : Stmt := inClass (top 27) 2
abbrev sPut : Stmt := inClass (top 20) 2
def spNd : Sp := fun vs H Q _ => ∃ (p : Addr) (m : Int), vs = [.ref p, .int m] ∧ 0 ≤ m ∧ Q (.int (if 0 < m then m + 1 else 0)) H
theorem scNd : FnScope ["self", "most"] ["self", "most"] (defScope sNd) := ⟨rfl, rfl, rfl, by decide +kernel, rfl, by decide +kernel, by decide +kernel⟩
theorem ok_nd {f : Addr} {fd : FuncData} (F : Fun K "needed" "Plain.needed" sNd f fd) : FnOk P w K mg base CX0 1 f fd ["self", "most"] spNd := by
  refine F.ok scNd (fun vs H Q E h => ?_) (fun cdv A outer s H vs Q E hr h => ?_)
  · obtain ⟨p, m, rfl, _⟩ := h
    rfl
  · obtain ⟨p, m, rfl, h0, q⟩ := h
    refine ⟨_, pss_one (ps_ret (pe_ifExp (pt_cmpR op_gt (pv 1) pe_int (nomark _)) (pe_op op_add (pv 1) pe_int) pe_int)), ?_⟩
    refine ⟨_, rfl, _, _, rfl, rfl, _, rfl, ?_⟩
    refine ite2 (fun z => ?_) (fun z => ?_)
    · rw [if_pos (of_decide_eq_true z)] at q
      exact ⟨_, rfl, _, _, rfl, rfl, q⟩
    · rw [if_neg (fun y => z (decide_eq_true y))] at q
      exact q
def spAk : Sp := fun vs H Q _ => ∃ (s p : Addr) (n : Nat) (q : Addr) (ts : List V) (es : List (Nat × Nat)), vs = [.ref s, .ref p] ∧ NetZ H p n q ts es ∧ PlainN es ∧ ∀ H', Same H H' → Q .non H'
theorem scAk : FnScope ["self", "net", "pair"] ["self", "net"] (defScope sAk) := ⟨rfl, rfl, rfl, by decide +kernel, rfl, by decide +kernel, by decide +kernel⟩
theorem ok_ak {f : Addr} {fd : FuncData} (F : Fun K "asked" "Plain.asked" sAk f fd) (FL : FnE P w K mg base "like_pair" ["net"] 1 spLp) : FnOk P w K mg base CX0 2 f fd ["self", "net"] spAk := by
  refine F.ok scAk (fun vs H Q E h => ?_) (fun cdv A outer s H vs Q E hr h => ?_)
  · obtain ⟨s, p, n, q, ts, es, rfl, _⟩ := h
    rfl
  · obtain ⟨s, p, n, qa, ts, es, rfl, N, pl, q⟩ := h
    refine ⟨_, pss_cons (ps_set (i := 2) scAk.nd rfl (Or.inl rfl) (pe_fc FL hr (pa_c (pv 1) pa_nil)))
      (pss_cons (ps_if (pt_cmpR op_notN (pv 2) pe_non (nomark _)) pss_never pss_nil)
      (pss_one (ps_ret pe_non))), ?_⟩
    exact ⟨_, rfl, p, n, qa, ts, es, rfl, N, pl, fun H1 s1 => ⟨_, rfl, rfl, _, rfl, iteF (q H1 s1)⟩⟩
structure RmIn (H : Hp) (p r : Addr) (n : Nat) (q : Addr) (ts : List V) (es : List (Nat × Nat)) (tl : List (Option Nat)) (k m : Nat) : Prop where
  N : NetZ H p n q ts es
  hR : H r = some (.tup (tv tl))
  len : tl.length = es.length
  hk : k < es.length
  hb : tl[k]? = some none
  hC : CleanTo es tl es.length
  hm : m ≤ 1000
  h64 : es.length < 64
  pl : PlainN es
  hM : ∃ M, (∀ x, x < n → dg es es.length x ≤ M) ∧ M < m
theorem RmIn.same {H H' : Hp} {p r : Addr} {n : Nat} {q : Addr} {ts : List V} {es : List (Nat × Nat)} {tl : List (Option Nat)} {k m : Nat} (h : RmIn H p r n q ts es tl k m) (s : Same H H') : RmIn H' p r n q ts es tl k m :=
  ⟨h.N.same s, s _ _ h.hR, h.len, h.hk, h.hb, h.hC, h.hm, h.h64, h.pl, h.hM⟩
theorem RmIn.fin {H : Hp} {p r : Addr} {n : Nat} {q : Addr} {ts : List V} {es : List (Nat × Nat)} {tl : List (Option Nat)} {k m : Nat} (h : RmIn H p r n q ts es tl k m) : FIn H p r n q ts es tl m := ⟨h.N, h.hR, h.len, h.hm⟩
abbrev nMr0 : List Str := ["self", "net", "tints", "tie", "many"]
abbrev nMr : List Str := ["self", "net", "tints", "tie", "many", "hub", "fan", "shared"]
def spMr : Sp := fun vs H Q _ => ∃ (s p r : Addr) (n : Nat) (q : Addr) (ts : List V) (es : List (Nat × Nat)) (tl : List (Option Nat)) (k m : Nat), vs = [.ref s, .ref p, .ref r, .int (k : Int), .int (m : Int)] ∧ RmIn H p r n q ts es tl k m ∧
  ∀ H' l, Same H H' → H l = none → ShSt H' l (roomF es tl k m) → Q (.ref l) H'
theorem scMr : FnScope nMr nMr0 (defScope sMr) := ⟨rfl, rfl, rfl, by decide +kernel, rfl, by decide +kernel, by decide +kernel⟩
theorem ok_mr {f : Addr} {fd : FuncData} (F : Fun K "made_room" "Plain.made_room" sMr f fd) (FFa : FnE P w K mg base "fan_of" ["net", "tints", "hub", "tie", "many"] 5 spFa) (FFb : FnE P w K mg base "free_at_both" ["net", "tints", "one", "other", "many"] 5 spFb) (FAc : FnE P w K mg base "across" ["net", "tie", "point"] 5 spAc) (FHn : FnE P w K mg base "handed_on" ["tints", "fan", "last_tint"] 5 spHn) (FTh : FnE P w K mg base "turned_and_handed_on" ["net", "tints", "hub", "fan", "many"] 5 spTh) :
    FnOk P w K mg base CX0 6 f fd nMr0 spMr := by
  refine F.ok scMr (fun vs H Q E h => ?_) (fun cdv A outer s H vs Q E hr h => ?_)
  · obtain ⟨s, p, r, n, q, ts, es, tl, k, m, rfl, _⟩ := h
    rfl
  · obtain ⟨sf, p, r, n, qa, ts, es, tl, k, m, rfl, I, q⟩ := h
    refine ⟨_, pss_cons (ps_set (i := 5) scMr.nd rfl (Or.inl rfl) (pe_ix ix_tup (pe_ix ix_tup (pe_ix ix_tup (pv 1) pe_int (fun _ _ => rfl)) (pv 3) (fun _ _ => rfl)) pe_int (fun _ _ => rfl)))
      (pss_cons (ps_set (i := 6) scMr.nd rfl (Or.inl rfl) (pe_fc FFa hr (pa_c (pv 1) (pa_c (pv 2) (pa_c (pv 5) (pa_c (pv 3) (pa_c (pv 4) pa_nil)))))))
      (pss_cons (ps_set (i := 7) scMr.nd rfl (Or.inl rfl) (pe_fc FFb hr (pa_c (pv 1) (pa_c (pv 2) (pa_c (pv 5) (pa_c (pe_fc FAc hr (pa_c (pv 1) (pa_c (pe_ix ix_list (pv 6) (pe_un un_neg pe_int) (fun _ _ => rfl)) (pa_c (pv 5) pa_nil)))) (pa_c (pv 4) pa_nil)))))))
      (pss_cons (ps_if (pt_truth (pv 7) (fun _ => rfl)) (pss_one (ps_ret (pe_fc FHn hr (pa_c (pv 2) (pa_c (pv 6) (pa_c (pe_ix ix_tup (pv 7) pe_int (fun _ _ => rfl)) pa_nil)))))) pss_nil)
      (pss_one (ps_ret (pe_fc FTh hr (pa_c (pv 1) (pa_c (pv 2) (pa_c (pv 5) (pa_c (pv 6) (pa_c (pv 4) pa_nil))))))))))), ?_⟩
    have N := I.N
    have hk := I.hk
    have h64 := I.h64
    obtain ⟨tk, htk, hta⟩ := N.at' hk
    obtain ⟨fo, hst⟩ := fan_ok (hub := (es.getD k (0, 0)).1) (k := k) (m := m) I.len es.length [k] (FanOk.start hk (.inl rfl)) (by omega)
    have eF : fanF es tl (es.getD k (0, 0)).1 m es.length [k] = fanOf es tl k m := rfl
    rw [eF] at fo hst
    obtain ⟨hll, _⟩ := fo.at' _ fo.lst_in
    have hle := fo.le
    refine ⟨_, rfl, p, _, _, _, rfl, rfl, SqT.of N.e1, rfl, _, rfl, qa, _, _, _, rfl, rfl, SqT.of N.e2, atI_nat htk, tk, _, _, _, rfl, rfl, SqT.of hta, rfl, ?_⟩
    refine ⟨_, rfl, _, rfl, _, rfl, _, rfl, _, rfl, p, r, n, qa, ts, es, tl, m, (es.getD k (0, 0)).1, k, rfl, I.fin, hk, .inl rfl, fun H1 fa s1 h1 => ?_⟩
    rw [eF] at h1
    have I1 := I.same s1
    refine ⟨_, rfl, _, rfl, _, rfl, _, rfl, _, rfl, _, rfl, fa, _, _, _, rfl, rfl, SqL.of h1, at_last fo.pos, _, rfl, p, n, qa, ts, es, lst (fanOf es tl k m), (es.getD k (0, 0)).1, rfl, I1.N, hll, _, rfl, p, r, n, qa, ts, es, tl, (es.getD k (0, 0)).1, tip es (es.getD k (0, 0)).1 (lst (fanOf es tl k m)), m, rfl, I1.N, I1.hR, I.len, I.hm, fun H2 t2 s2 h2 => ?_⟩
    have s12 := Same.trans s1 s2
    have I2 := I.same s12
    by_cases h0 : 0 < (both es tl (es.getD k (0, 0)).1 (tip es (es.getD k (0, 0)).1 (lst (fanOf es tl k m))) m).length
    · have er : roomF es tl k m = hnd tl ((both es tl (es.getD k (0, 0)).1 (tip es (es.getD k (0, 0)).1 (lst (fanOf es tl k m))) m).getD 0 0) (fanOf es tl k m) := by unfold roomF; rw [if_pos h0]
      refine ⟨_, rfl, true, .inr (.inl ⟨_, SqT.of h2, ?_⟩), iteT ?_⟩
      · cases hz : both es tl (es.getD k (0, 0)).1 (tip es (es.getD k (0, 0)).1 (lst (fanOf es tl k m))) m with
        | nil => rw [hz] at h0; cases h0
        | cons _ _ => rfl
      · refine ⟨_, rfl, _, rfl, _, rfl, t2, _, _, _, rfl, rfl, SqT.of h2, atI_nat (j := 0) (nl_get (head_get h0)), r, fa, tl, fanOf es tl k m, _, rfl, I2.hR, s2 _ _ h1, fo.pos, by omega, fun i b hi => ?_, fun H3 l s3 n3 h3 => q H3 l (Same.trans s12 s3) (s12.none n3) (by rw [er]; exact h3)⟩
        have hil := (List.getElem?_eq_some_iff.mp hi).1
        obtain ⟨t, _, tb, _⟩ := fo.seq i _ b (List.getElem?_eq_getElem (by omega)) hi
        exact ⟨t, tb⟩
    · have er : roomF es tl k m = turnOf es tl (es.getD k (0, 0)).1 m (fanOf es tl k m) := by unfold roomF; rw [if_neg h0]
      refine ⟨_, rfl, false, .inr (.inl ⟨_, SqT.of h2, ?_⟩), iteF ?_⟩
      · cases hz : both es tl (es.getD k (0, 0)).1 (tip es (es.getD k (0, 0)).1 (lst (fanOf es tl k m))) m with
        | nil => rfl
        | cons _ _ => exact absurd (by rw [hz]; exact Nat.succ_pos _) h0
      · exact ⟨_, rfl, _, rfl, _, rfl, _, rfl, _, rfl, p, r, n, qa, ts, es, tl, m, (es.getD k (0, 0)).1, k, fa, fanOf es tl k m, rfl, I2.fin, h64, s2 _ _ h1, ⟨I.pl, I.hC, I.hb, I.hM, (N.ok _ (getD_mem hk)).1, fo, h0, hst.resolve_left h0⟩, fun H3 l s3 n3 h3 => q H3 l (Same.trans s12 s3) (s12.none n3) (by rw [er]; exact h3)⟩
abbrev nPut : List Str := ["self", "net", "tints", "tie", "many", "need", "ends", "shared"]
def spPut (cM : Addr) : Sp := fun vs H Q _ => ∃ (s p r : Addr) (n : Nat) (q : Addr) (ts : List V) (es : List (Nat × Nat)) (tl : List (Option Nat)) (k m : Nat) (dx : Addr), vs = [.ref s, .ref p, .ref r, .int (k : Int), .int (m : Int)] ∧ H s = some (.ins cM dx []) ∧ RmIn H p r n q ts es tl k m ∧
  ∀ H' l, Same H H' → H l = none → ShSt H' l (putF es tl k m) → Q (.ref l) H'
theorem scPut : FnScope nPut ["self", "net", "tints", "tie", "many"] (defScope sPut) := ⟨rfl, rfl, rfl, by decide +kernel, rfl, by decide +kernel, by decide +kernel⟩
theorem max_le {es : List (Nat × Nat)} {n m : Nat} {M : Int} (h : IsMax (dl es n) M) (hM : ∃ M, (∀ x, x < n → dg es es.length x ≤ M) ∧ M < m) : (if 0 < M then M + 1 else 0) ≤ (m : Int) := by
  obtain ⟨M', h1, h2⟩ := hM
  rcases h with ⟨_, rfl⟩ | ⟨h, _⟩
  · rw [if_neg (by omega)]
    omega
  · unfold dl at h
    obtain ⟨x, hx, rfl⟩ := List.mem_map.mp h
    have := h1 x (List.mem_range.mp hx)
    split <;> omega
theorem ok_put {f : Addr} {fd : FuncData} (F : Fun K "put" "Way.put" sPut f fd) (T : Bi mg) (FBl : FnE P w K mg base "is_below" ["thing", "bound"] 6 spBel) (FMo : FnE P w K mg base "most_of" ["net"] 6 spMo) (FFb : FnE P w K mg base "free_at_both" ["net", "tints", "one", "other", "many"] 6 spFb)
    (MN : MeE P w K mg base cM "needed" ["self", "most"] 6 spNd) (MA : MeE P w K mg base cM "asked" ["self", "net"] 6 spAk) (MR : MeE P w K mg base cM "made_room" nMr0 6 spMr) : FnOk P w K mg base CX0 7 f fd ["self", "net", "tints", "tie", "many"] (spPut cM) := by
  refine F.ok scPut (fun vs H Q E h => ?_) (fun cdv A outer s H vs Q E hr h => ?_)
  · obtain ⟨s, p, r, n, q, ts, es, tl, k, m, dx, rfl, _⟩ := h
    rfl
  · obtain ⟨sf, p, r, n, qa, ts, es, tl, k, m, dx, rfl, hs, I, q⟩ := h
    refine ⟨_, pss_cons (ps_if (PW.pt (pw_or (pt_not (pt_val (pe_fc FBl hr (pa_c (pv 3) (pa_c (pe_callB call_len_seq rfl T.len bLen (pa_c (pe_ix ix_tup (pv 1) pe_int (fun _ _ => rfl)) pa_nil)) pa_nil))))) (pw_or1 (pt_cmpR op_notN (pe_ix ix_tup (pv 2) (pv 3) (fun _ _ => rfl)) pe_non (nomark _))))) pss_never pss_nil)
      (pss_cons (ps_expr (pe_me MA hr (pv 0) (pa_c (pv 1) pa_nil)))
      (pss_cons (ps_set (i := 5) scPut.nd rfl (Or.inl rfl) (pe_me MN hr (pv 0) (pa_c (pe_fc FMo hr (pa_c (pv 1) pa_nil)) pa_nil)))
      (pss_cons (ps_if (pt_cmpR op_lt (pv 4) (pv 5) (nomark _)) pss_never pss_nil)
      (pss_cons (ps_set (i := 6) scPut.nd rfl (Or.inl rfl) (pe_ix ix_tup (pe_ix ix_tup (pv 1) pe_int (fun _ _ => rfl)) (pv 3) (fun _ _ => rfl)))
      (pss_cons (ps_set (i := 7) scPut.nd rfl (Or.inl rfl) (pe_fc FFb hr (pa_c (pv 1) (pa_c (pv 2) (pa_c (pe_ix ix_tup (pv 6) pe_int (fun _ _ => rfl)) (pa_c (pe_ix ix_tup (pv 6) pe_int (fun _ _ => rfl)) (pa_c (pv 4) pa_nil)))))))
      (pss_cons (ps_if (pt_truth (pv 7) (fun _ => rfl)) (pss_one (ps_ret (pe_lst (pa_c (pe_tup (pa_c pe_str (pa_c (pv 3) (pa_c (pe_ix ix_tup (pv 7) pe_int (fun _ _ => rfl)) pa_nil)))) pa_nil)))) pss_nil)
      (pss_one (ps_ret (pe_me MR hr (pv 0) (pa_c (pv 1) (pa_c (pv 2) (pa_c (pv 3) (pa_c (pv 4) pa_nil))))))))))))), ?_⟩
    have N := I.N
    have hlen := N.len
    have hk := I.hk
    refine ⟨_, rfl, _, rfl, p, _, _, _, rfl, rfl, SqT.of N.e1, rfl, qa, _, rfl, .inr (SqT.of N.e2), (k : Int), _, rfl, by omega, by omega, _, rfl, ?_⟩
    refine iteF ⟨_, rfl, _, rfl, r, _, _, _, rfl, rfl, SqT.of I.hR, atI_nat (tv_get I.hb), rfl, _, rfl, iteF ?_⟩
    refine ⟨_, rfl, sf, dx, _, rfl, hs, rfl, _, rfl, sf, p, n, qa, ts, es, rfl, N, I.pl, fun H0 s0 => ?_⟩
    have I0 := I.same s0
    refine ⟨_, rfl, sf, dx, _, rfl, s0 _ _ hs, rfl, _, rfl, p, n, qa, ts, es, rfl, I0.N, fun H1 M s1' hMx => ⟨sf, M, rfl, (most_nn hMx).1, ?_⟩⟩
    have s1 := Same.trans s0 s1'
    have hg := max_le hMx I.hM
    have I1 := I.same s1
    refine ⟨_, rfl, _, rfl, _, _, rfl, rfl, _, rfl, ?_⟩
    refine ite2 (fun z => absurd (of_decide_eq_true z) (by omega)) (fun _ => ?_)
    obtain ⟨tk, htk, hta⟩ := I1.N.at' hk
    refine ⟨_, rfl, p, _, _, _, rfl, rfl, SqT.of I1.N.e1, rfl, _, rfl, qa, _, _, _, rfl, rfl, SqT.of I1.N.e2, atI_nat htk, ?_⟩
    refine ⟨_, rfl, _, rfl, _, rfl, tk, _, _, _, rfl, rfl, SqT.of hta, rfl, _, rfl, tk, _, _, _, rfl, rfl, SqT.of hta, rfl, _, rfl, p, r, n, qa, ts, es, tl, (es.getD k (0, 0)).1, (es.getD k (0, 0)).2, m, rfl, I1.N, I1.hR, I.len, I.hm, fun H2 t s2 ht => ?_⟩
    have s12 := Same.trans s1 s2
    by_cases h0 : 0 < (both es tl (es.getD k (0, 0)).1 (es.getD k (0, 0)).2 m).length
    · have ep : putF es tl k m = [.tint k ((both es tl (es.getD k (0, 0)).1 (es.getD k (0, 0)).2 m).getD 0 0)] := by unfold putF; rw [if_pos h0]
      refine ⟨_, rfl, true, .inr (.inl ⟨_, SqT.of ht, ?_⟩), iteT ?_⟩
      · cases hz : both es tl (es.getD k (0, 0)).1 (es.getD k (0, 0)).2 m with
        | nil => rw [hz] at h0; cases h0
        | cons _ _ => rfl
      · refine ⟨_, rfl, _, rfl, t, _, _, _, rfl, rfl, SqT.of ht, atI_nat (j := 0) (nl_get (head_get h0)), (by show 3 ≤ sizeLine; decide), fun u hu => ⟨(by show 1 ≤ sizeLine; decide), fun l hl => ?_⟩⟩
        have s3 := Same.trans s12 (same_new (o := .tup [.str "tint", .int (k : Int), .int (((both es tl (es.getD k (0, 0)).1 (es.getD k (0, 0)).2 m).getD 0 0 : Nat) : Int)]) hu)
        refine q _ l (Same.trans s3 (same_new hl)) (s3.none hl) ?_
        rw [ep]
        refine ⟨[(u, _)], upd_same, rfl, fun x hx => ?_⟩
        rw [List.mem_singleton.mp hx]
        exact same_new hl _ _ upd_same
    · have ep : putF es tl k m = roomF es tl k m := by unfold putF; rw [if_neg h0]
      refine ⟨_, rfl, false, .inr (.inl ⟨_, SqT.of ht, ?_⟩), iteF ?_⟩
      · cases hz : both es tl (es.getD k (0, 0)).1 (es.getD k (0, 0)).2 m with
        | nil => rfl
        | cons _ _ => exact absurd (by rw [hz]; exact Nat.succ_pos _) h0
      · refine ⟨_, rfl, sf, dx, _, rfl, s12 _ _ hs, rfl, _, rfl, _, rfl, _, rfl, _, rfl, sf, p, r, n, qa, ts, es, tl, k, m, rfl, I.same s12, fun H3 l s3 n3 h3 => ?_⟩
        exact q H3 l (Same.trans s12 s3) (s12.none n3) (by rw [ep]; exact h3)
end
end My
set_option Elab.async false
set_option linter.all false
set_option maxRecDepth 100000
set_option maxHeartbeats 4000000
namespace L2
open PySem PySem.Spec PyProof.Rows
def addrOf : Value → Addr
  | .ref a => a
  | _ => 0
theorem refsV_of : ∀ {as : List Addr} {us : List Value}, Vals (as.map V.ref) us → us = as.map Value.ref
  | [], _, h => by cases h; rfl
  | a :: as, _, h => by
    cases h with
    | cons r h =>
      rw [refsV_of h, show _ = Value.ref a from r]
      rfl
theorem valsV_refs : ∀ as : List Addr, Vals (as.map V.ref) (as.map Value.ref)
  | [] => .nil
  | _ :: as => .cons rfl (valsV_refs as)
section
variable {X : Cx} {pins : List (Addr × Obj)} {σ : St} {H : Hp} {s : Shared} {E : Value → Shared → Prop}
theorem sorted_keyR {l f : Addr} {as : List Addr} {g : Addr → Int} {Q : Value → Shared → Prop} (I : Inv X pins σ H s) (hl : SqL X.K H l (as.map V.ref)) (h64 : as.length < 64)
    (turn : ∀ (n : Addr), n ∈ as → KeyTurn X pins σ H X.A.in1.in1 (.ref f) (.ref n) (g n))
    (done : ∀ (D : Addr) (as' : List Addr) (s' : Shared), H D = none → as'.Perm as → Inv X pins σ (upd H D (.lst (as'.map V.ref))) s' → Q (.ref D) s') :
    wpAny (model X.prog X.w) X.A (call (.builtin "sorted") [.ref l] [(Str.ofString "key", .ref f)]) Q E s := by
  obtain ⟨vs, rvs, pl, _⟩ := I.list hl
  have hv := refsV_of rvs
  have hlen : vs.length = as.length := by rw [hv, List.length_map]
  have hlz : (as.map g).length = vs.length := by rw [List.length_map, hlen]
  refine call_function_entry_kw kind_sorted plain_sorted entry_sorted (ksk_s1 _ _) ?_
  unfold Builtin.«sorted»
  refine wpAny_bind (m := checkCount "sorted" 1 1 _) (wpAny_pure ?_)
  refine wpAny_bind (collect_list pl.isList ?_ (by rw [sizeLine_eq]; omega))
  refine wpAny_bind (wpAny_newList ?_ (by rw [sizeLine_eq]; omega))
  have hsz : ((s.heap.push (seqObj "list" #[] 0)).update s.heap.objs.size (Obj.mapSeq (· ++ vs.toArray))).objs.size = s.heap.objs.size + 1 := by
    rw [Heap.size_update, size_push']
  have hoL : (((s.heap.push (seqObj "list" #[] 0)).update s.heap.objs.size (Obj.mapSeq (· ++ vs.toArray))).push (seqObj "list" vs.toArray 0)).get? (s.heap.objs.size + 1) = some (seqObj "list" vs.toArray 0) := by
    rw [← hsz]; exact Heap.get?_push_size _ rfl
  have keep : ∀ b o, s.heap.get? b = some o → (((s.heap.push (seqObj "list" #[] 0)).update s.heap.objs.size (Obj.mapSeq (· ++ vs.toArray))).push (seqObj "list" vs.toArray 0)).get? b = some o := fun b o q => by
    have hlt : b < s.heap.objs.size := Heap.lt_size q
    rw [Heap.get?_push_ne _ _ _ (by rw [hsz]; exact Nat.ne_of_lt (Nat.lt_succ_of_lt hlt)), Heap.get?_update_ne _ _ _ _ (Nat.ne_of_lt hlt), Heap.get?_push_ne _ _ _ (Nat.ne_of_lt hlt)]
    exact q
  have I1 : Inv X pins σ H { s with heap := ((s.heap.push (seqObj "list" #[] 0)).update s.heap.objs.size (Obj.mapSeq (· ++ vs.toArray))).push (seqObj "list" vs.toArray 0) } := I.kept (t' := s.toks) keep
  have hD : H (s.heap.objs.size + 1) = none := I.hok.fresh (Nat.le_succ _)
  have fa : FpOk X pins H (s.heap.objs.size + 1) := I.fpOk (Nat.le_succ _) hD
  show wpAny _ _ _ _ _ { s with heap := ((s.heap.push (seqObj "list" #[] 0)).update s.heap.objs.size (Obj.mapSeq (· ++ vs.toArray))).push (seqObj "list" vs.toArray 0) }
  rw [hsz]
  refine wpAny_bind (wpAny_holding (wpAny_call_entry_kw slot_list_sort ⟨_, hoL, rfl⟩ entry_list_sort ?body (ksk_l1 _ _)))
  case body =>
    show wpAny (model X.prog X.w) X.A.in1.in1 (Builtin.«list.sort» ⟨[.ref (s.heap.objs.size + 1)], [(Str.ofString "key", .ref f)]⟩) _ _ _
    rw [ksk_t1]
    refine skey_sort (s := { s with heap := ((s.heap.push (seqObj "list" #[] 0)).update s.heap.objs.size (Obj.mapSeq (· ++ vs.toArray))).push (seqObj "list" vs.toArray 0) }) (kz := as.map g) I1 fa hoL hlz (by omega) (fun i v k hv' hk => ?_) fun s' out c I' ho' ko => ⟨_, rfl, ?_⟩
    · rw [List.getElem?_map] at hk
      rw [hv, List.getElem?_map] at hv'
      cases q : as[i]? with
      | none => rw [q] at hk; cases hk
      | some n =>
        rw [q] at hk hv'
        cases hk
        cases hv'
        exact turn n (List.mem_of_getElem? q)
    · obtain ⟨ps, hp, ho, hs⟩ := ko
      have hP : out.toList.Perm vs := by
        have h1 := hp.map Prod.snd
        rw [List.map_snd_zip (by rw [List.length_map]; omega)] at h1
        rw [ho]
        exact h1
      obtain ⟨as', e', p'⟩ : ∃ as' : List Addr, out.toList = as'.map Value.ref ∧ as'.Perm as := by
        refine ⟨out.toList.map addrOf, ?_, ?_⟩
        · rw [List.map_map]
          conv => lhs; rw [← List.map_id out.toList]
          refine List.map_congr_left fun v hv2 => ?_
          have := hP.mem_iff.mp hv2
          rw [hv] at this
          obtain ⟨a, _, rfl⟩ := List.mem_map.mp this
          rfl
        · have h1 := hP.map addrOf
          rw [hv, List.map_map] at h1
          rw [show (addrOf ∘ Value.ref) = id from rfl, List.map_id] at h1
          exact h1
      have hl2 : as'.length ≤ sizeLine := by
        rw [p'.length_eq, sizeLine_eq]; omega
      refine wpAny_pure ⟨_, rfl, done _ as' s' hD p' (I'.track fa (Nat.le_trans I.sz (Nat.le_succ _)) ?_)⟩
      refine ⟨by rw [List.length_map]; exact hl2, out.toList, c, by rw [e']; exact valsV_refs as', ?_⟩
      rw [Array.toArray_toList]
      exact ho'
end
def tSortLamR (K : PySem.W.Frag) (P : Addr) (lpos : Pos) (qual : Str) (bs : List (Option Nat)) (ta te : TE) : TE := fun σ H Q => ta σ H fun x H1 => ∃ (l : Addr) (ns : List Addr) (g : Addr → Int) (fv : List V), x = .ref l ∧ SqL K H1 l (ns.map V.ref) ∧ ns.length < 64 ∧ TabI P lpos qual H1 ∧ bst bs σ = fv.map some ∧
  ∀ H2, Gr P lpos qual H1 H2 → (∀ n ∈ ns, te (some (.ref n) :: fv.map some) H2 fun v H3 => v = .int (g n) ∧ H3 = H2) ∧ ∀ D ns', H2 D = none → List.Perm ns' ns → Q (.ref D) (upd H2 D (.lst (ns'.map V.ref)))
theorem pe_sortLamR {X : Cx} {k : Nat} {scope : Scope} {cl : List (Str × Addr)} {fr : List Str} {bs : List (Option Nat)} {x : Str} {params : Arguments} {body arg : Expr} {c P : Addr} {qual : Str} {lpos kpos pos p : Pos} {ta te : TE}
    (B : Blk X scope cl fr bs) (L : Lam x fr params scope) (hbm : BM X.mg X.base) (hcode : X.env.code = .ref c) (hC : PySem.W.codeHdIn X.K c P = true) (hq0 : X.env.qual ++ "<lambda>" = qual) (hdef : defaultsOf params X.env = ([], []))
    (hr : Room (k + 3) X.A) (hg : Gl X "sorted") (hm : X.mg "sorted" = none) (ha : PE X arg ta)
    (hbody : ∀ (f c' : Addr) (A : Around) (s : Shared) (H : Hp), Room k (A.deeper (PySem.W.envX qual scope s.heap.objs.size f (.ref c') cl)) → PE (cxLam X.prog X.w X.K X.mg X.base (x :: fr) qual scope cl f c' A X.stack s H) body te)
    (hs : starEach [arg] X.env = [(false, eval arg X.env)] := by rfl) :
    PE X (.Call (.Name "sorted" p) [arg] [⟨some "key", .Lambda params body scope lpos, kpos⟩] pos) (tSortLamR X.K P lpos qual bs ta te) := by
  intro pins s σ H Q I h
  refine wpAny_Call_Name_kw (ld_blt I hg hm boot_sorted ?_)
  refine callWith_kw (id := "sorted") (thn ((pa_cons ha pa_nil hs : PA X [arg] (tCons ta tNil)) pos pins s σ H (only1 fun x H1 => ∃ (l : Addr) (ns : List Addr) (g : Addr → Int) (fv : List V), x = .ref l ∧ SqL X.K H1 l (ns.map V.ref) ∧ ns.length < 64 ∧ TabI P lpos qual H1 ∧ bst bs σ = fv.map some ∧
    ∀ H2, Gr P lpos qual H1 H2 → (∀ n ∈ ns, te (some (.ref n) :: fv.map some) H2 fun v H3 => v = .int (g n) ∧ H3 = H2) ∧ ∀ D ns', H2 D = none → List.Perm ns' ns → Q (.ref D) (upd H2 D (.lst (ns'.map V.ref)))) I h) fun us s1 ⟨vs, H1, I1, r1, q1⟩ => ?_) (by rw [hs]; rfl) (by rw [hs]; rfl)
  obtain ⟨x1, rfl, q1⟩ := only1_of q1
  obtain ⟨u1, rfl, ru⟩ := vals1 r1
  obtain ⟨l, ns, g, fv, rfl, hl, h64, htab, hfv, q⟩ := q1
  cases ru
  show wpAny _ _ (evalAll [(do let v ← eval (.Lambda params body scope lpos) X.env; standAt pos; pure v)]) _ _ s1
  refine wpAny_evalAll_cons (wpAny_bind (lam_make I1 hbm B.clos hcode hC hq0 hdef htab fun f c' pm ctv s2 H2 I2 gr hf hfs hfn hc => wpAny_bind (wpAny_standAt (wpAny_pure (wpAny_evalAll_nil ?_)))))
  show wpAny _ _ (call (.builtin "sorted") [.ref l] [(Str.ofString "key", .ref f)]) _ _ s2
  obtain ⟨qk, qd⟩ := q H2 gr
  have ff : FpOk X pins H2 f := I1.fpOk hfs hfn
  have I2' : Inv X (pins ++ [(f, PySem.W.kla_obj "<lambda>" qual params body scope cl pm c' ctv)]) σ H2 s2 := I2.pins_of fun p hp => by
    rcases List.mem_append.mp hp with z | z
    · exact I2.pin p (List.mem_append_right _ z)
    · rw [List.mem_singleton.mp z]
      exact ff.pin1 I2 hf fun v z => nomatch z
  refine sorted_keyR (g := g) I2' (gr.sqL htab hl) h64 (fun n hn s' pl I' => ?_) fun D ns' s' hD hP I' => ⟨.ref D, _, I'.unpinned, rfl, qd D ns' hD hP⟩
  have pf := I'.pin (f, PySem.W.kla_obj "<lambda>" qual params body scope cl pm c' ctv) (List.mem_append_right _ (List.mem_append_left _ (List.mem_append_right _ (.head _))))
  have hcd : s'.heap.CodeRec (.ref c') qual := (show ObjOk X.prog X.w H2 s'.heap c' (TabE qual c') from I'.hok c' _ hc).1
  have hr1 : Room (k + 1) X.A.in1.in1 := (hr.in1).in1
  refine wpAny_call (codeAny_mono (lam_run (v := .ref n) L hr1 (I'.env0.in1).in1 pf.1 hcd (fun y z c h1 h2 => I'.ok.inj y z c (B.c1 h1) (B.c1 h2)) B.cl2 (fun y c h => ⟨I'.cell y c (B.c1 h), I'.freeC y c (B.c1 h)⟩) (closAt_of B I' hfv) rfl (hbody f c' _ s' H2 (hr1.deeper _)) (qk n hn)) fun r s'' hq => ?_)
  cases r with
  | error e => exact hq.elim
  | ok fl =>
    cases fl with
    | next => exact False.elim hq
    | brk => exact False.elim hq
    | cont => exact False.elim hq
    | ret u =>
      obtain ⟨v', H', J, r', rfl, rfl⟩ := I'.after hq
      exact ⟨r', J⟩
end L2
set_option Elab.async false
set_option linter.all false
set_option maxRecDepth 100000
set_option maxHeartbeats 4000000
namespace My
open PySem L2
theorem perm_map {α β : Type} {f : α → β} {m l' : List β} (h : m.Perm l') : ∀ l : List α, l.map f = m → ∃ l2 : List α, l2.Perm l ∧ l2.map f = l' := by
  induction h with
  | nil => intro l e; exact ⟨l, .refl _, e⟩
  | cons x h ih =>
    intro l e
    cases l with
    | nil => cases e
    | cons a l =>
      obtain ⟨l2, h2, e2⟩ := ih l (List.cons.inj e).2
      exact ⟨a :: l2, h2.cons a, by rw [List.map_cons, e2, (List.cons.inj e).1]⟩
  | swap x y t =>
    intro l e
    cases l with
    | nil => cases e
    | cons a l =>
      cases l with
      | nil => cases (List.cons.inj e).2
      | cons b l =>
        have e1 := List.cons.inj e
        have e2 := List.cons.inj e1.2
        exact ⟨b :: a :: l, .swap .., by rw [List.map_cons, List.map_cons, e1.1, e2.1, e2.2]⟩
  | trans _ _ ih1 ih2 =>
    intro l e
    obtain ⟨l2, h2, e2⟩ := ih1 l e
    obtain ⟨l3, h3, e3⟩ := ih2 l2 e2
    exact ⟨l3, h3.trans h2, e3⟩
def prs : Nat → List (Nat × Nat)
  | 0 => []
  | n + 1 => prs n ++ (List.range n).map fun a => (a, n)
theorem prs_len : ∀ n, 2 * (prs n).length + n = n * n
  | 0 => rfl
  | n + 1 => by
    have ih := prs_len n
    show 2 * (prs n ++ (List.range n).map fun a => (a, n)).length + (n + 1) = (n + 1) * (n + 1)
    have e : (n + 1) * (n + 1) = n * n + 2 * n + 1 := by rw [Nat.add_mul, Nat.mul_add n n 1]; omega
    rw [List.length_append, List.length_map, List.length_range, e]
    omega
theorem prs_mem : ∀ {n : Nat} {e : Nat × Nat}, e ∈ prs n → e.1 < e.2 ∧ e.2 < n
  | 0, e, h => by cases h
  | n + 1, e, h => by
    rcases List.mem_append.mp h with z | z
    · have := prs_mem z
      omega
    · obtain ⟨a, ha, rfl⟩ := List.mem_map.mp z
      have := List.mem_range.mp ha
      exact ⟨this, Nat.lt_succ_self _⟩
theorem prs_nodup : ∀ n, (prs n).Nodup
  | 0 => List.nodup_nil
  | n + 1 => by
    show (prs n ++ (List.range n).map fun a => (a, n)).Nodup
    rw [List.nodup_append]
    refine ⟨prs_nodup n, ?_, fun a ha b hb z => ?_⟩
    · rw [List.nodup_iff_pairwise_ne, List.pairwise_map]
      exact List.Pairwise.imp (fun {a b} q z => q (Prod.mk.inj z).1) (List.nodup_iff_pairwise_ne.mp List.nodup_range)
    · have := prs_mem ha
      obtain ⟨c, _, rfl⟩ := List.mem_map.mp hb
      rw [z] at this
      exact Nat.lt_irrefl _ this.2
theorem prs_28 {n : Nat} (h : n ≤ 8) : (prs n).length ≤ 28 := by
  have e := prs_len n
  have : n = 0 ∨ n = 1 ∨ n = 2 ∨ n = 3 ∨ n = 4 ∨ n = 5 ∨ n = 6 ∨ n = 7 ∨ n = 8 := by omega
  rcases this with rfl | rfl | rfl | rfl | rfl | rfl | rfl | rfl | rfl <;> omega
theorem plain_of {es qs : List (Nat × Nat)} (nd : qs.Nodup) (lt : ∀ e ∈ qs, e.1 < e.2) (h : ∀ j, j < es.length → ∃ e, qs[j]? = some e ∧ (es.getD j (0, 0) = e ∨ es.getD j (0, 0) = (e.2, e.1))) : PlainN es := by
  intro i j hi hj hij x ax ay z
  obtain ⟨e, he, ee⟩ := h i hi
  obtain ⟨e', he', ee'⟩ := h j hj
  have l1 := lt e (List.mem_of_getElem? he)
  have l2 := lt e' (List.mem_of_getElem? he')
  have q : e = e' := by
    obtain ⟨a, b⟩ := e
    obtain ⟨c, d⟩ := e'
    have q2 : a = c ∧ b = d := by
      unfold At at ax ay
      unfold oth at z
      rcases ee with ee | ee <;> rcases ee' with ee' | ee' <;> rw [ee] at ax z <;> rw [ee'] at ay z <;> dsimp only at ax ay z l1 l2 <;> split at z <;> split at z <;> omega
    rw [q2.1, q2.2]
  subst q
  exact hij ((List.getElem?_inj (List.getElem?_eq_some_iff.mp he).1 nd).mp (he.trans he'.symm))
def keyOf (G : Hp) (ns : List Int) (a : Addr) : Int := match G a with
  | some (.tup [.int i, .int j]) => draw ns (8 + 9 + 9 * j + i)
  | _ => 0
def NvI (Pt : Addr) (lp : Pos) (lq : Str) (H : Hp) (a D d : Addr) (n : Nat) (my : Int) (tr : List (Addr × Nat × Nat)) (i : Nat) (σ : St) (G : Hp) : Prop :=
  ∃ (us : List V) (es : List (Nat × Nat)) (v4 v5 v8 : Option V), σ = [some (.ref a), some (.int 8), some (.int (n : Int)), some (.ref D), v4, v5, some (.int my), some (.ref d), v8] ∧ Gr Pt lp lq H G ∧ G D = some (.lst (tr.map fun x => V.ref x.1)) ∧ (∀ x ∈ tr, G x.1 = some (.tup [.int (x.2.1 : Int), .int (x.2.2 : Int)])) ∧ G d = some (.lst us) ∧ us.length = i ∧ es.length = i ∧ (∀ (j : Nat) t, us[j]? = some t → ∃ b, t = V.ref b ∧ G b = some (.tup [.int ((es.getD j (0, 0)).1 : Int), .int ((es.getD j (0, 0)).2 : Int)])) ∧ ∀ j, j < i → ∃ x, tr[j]? = some x ∧ (es.getD j (0, 0) = x.2 ∨ es.getD j (0, 0) = (x.2.2, x.2.1))
theorem getD_app {es : List (Nat × Nat)} {e : Nat × Nat} {j : Nat} (h : j < es.length) : (es ++ [e]).getD j (0, 0) = es.getD j (0, 0) := by rw [List.getD_eq_getElem?_getD, List.getD_eq_getElem?_getD, List.getElem?_append_left h]
theorem getD_snoc (es : List (Nat × Nat)) (e : Nat × Nat) : (es ++ [e]).getD es.length (0, 0) = e := by rw [List.getD_eq_getElem?_getD, List.getElem?_append_right (Nat.le_refl _), Nat.sub_self]; rfl
theorem NvI.add {Pt : Addr} {lp : Pos} {lq : Str} {H : Hp} {a D d : Addr} {n : Nat} {my : Int} {tr : List (Addr × Nat × Nat)} {i : Nat} {G : Hp} {us : List V} {es : List (Nat × Nat)} (hDd : D ≠ d) (hd0 : H d = none) (g : Gr Pt lp lq H G) (gD : G D = some (.lst (tr.map fun x => V.ref x.1))) (gU : ∀ x ∈ tr, G x.1 = some (.tup [.int (x.2.1 : Int), .int (x.2.2 : Int)])) (gd : G d = some (.lst us)) (lu : us.length = i) (le : es.length = i)
    (hT1 : ∀ (j : Nat) t, us[j]? = some t → ∃ b, t = V.ref b ∧ G b = some (.tup [.int ((es.getD j (0, 0)).1 : Int), .int ((es.getD j (0, 0)).2 : Int)])) (hT2 : ∀ j, j < i → ∃ x, tr[j]? = some x ∧ (es.getD j (0, 0) = x.2 ∨ es.getD j (0, 0) = (x.2.2, x.2.1)))
    {x : Addr × Nat × Nat} (hx : tr[i]? = some x) {b : Addr} (hb : G b = none) {e : Nat × Nat} (he : e = x.2 ∨ e = (x.2.2, x.2.1)) (w4 w5 w8 : Option V) :
    NvI Pt lp lq H a D d n my tr (i + 1) [some (.ref a), some (.int 8), some (.int (n : Int)), some (.ref D), w4, w5, some (.int my), some (.ref d), w8] (upd (upd G b (.tup [.int (e.1 : Int), .int (e.2 : Int)])) d (.lst (us ++ [.ref b]))) := by
  have gd2 : (upd G b (.tup [.int (e.1 : Int), .int (e.2 : Int)])) d = some (.lst us) := same_new hb _ _ gd
  have tk : Tk G (upd (upd G b (.tup [.int (e.1 : Int), .int (e.2 : Int)])) d (.lst (us ++ [.ref b]))) := Tk.trans (Same.tk (same_new hb)) (tk_lst gd2)
  refine ⟨us ++ [.ref b], es ++ [e], w4, w5, w8, rfl, (g.new hb).lst gd2 hd0, by rw [upd_ne hDd]; exact same_new hb _ _ gD, fun y hy => tk _ _ (gU y hy), upd_same, by rw [List.length_append, lu]; rfl, by rw [List.length_append, le]; rfl, fun j t h => ?_, fun j hj => ?_⟩
  · by_cases hj : j < us.length
    · rw [List.getElem?_append_left hj] at h
      obtain ⟨b', e1, e2⟩ := hT1 j t h
      exact ⟨b', e1, by rw [getD_app (by omega)]; exact tk _ _ e2⟩
    · have hj2 : j = us.length := by
        have := (List.getElem?_eq_some_iff.mp h).1
        rw [List.length_append, List.length_singleton] at this
        omega
      rw [hj2, List.getElem?_append_right (Nat.le_refl _), Nat.sub_self] at h
      cases h
      refine ⟨b, rfl, ?_⟩
      rw [hj2, lu, ← le, getD_snoc, upd_ne (Ne.symm (ne_of_none gd hb))]
      exact upd_same
  · by_cases hj2 : j < i
    · rw [getD_app (by omega)]
      exact hT2 j hj2
    · have e3 : j = i := by omega
      subst e3
      refine ⟨x, hx, ?_⟩
      rw [← le, getD_snoc]
      exact he
section
variable {P : Program} {w : World} {K : PySem.W.Frag} {mg : Str → Option Value} {base : Heap} {Pt c : Addr}
abbrev sNet : Stmt := top 32
abbrev lamE : Expr := kwLam ((defBody sNet).getD 3 (.Pass ⟨0, 0, 0, 0⟩))
abbrev lpos : Pos := ⟨169, 40, 169, 131⟩
abbrev lqual : Str := "_law_net.<locals>.<lambda>"
abbrev nNet : List Str := ["_law_draws_here", "_law_at", "_law_points", "_law_pairs", "_law_one", "_law_other", "_law_many", "_law_ties", "_law_k"]
def spNet (K : PySem.W.Frag) (Pt : Addr) : Sp := fun vs H Q _ => ∃ (a : Addr) (ns : List Int), vs = [.ref a, .int 8] ∧ SqL K H a (ns.map V.int) ∧ Dr ns ∧ TabI Pt lpos lqual H ∧
  ∀ (H' : Hp) (p : Addr) (n : Nat) (q : Addr) (ts : List V) (es : List (Nat × Nat)), Gr Pt lpos lqual H H' → NetZ H' p n q ts es → es.length ≤ 28 → PlainN es → n ≤ 8 → Q (.ref p) H'
theorem scNet : FnScope nNet ["_law_draws_here", "_law_at"] (defScope sNet) := ⟨rfl, rfl, rfl, by decide +kernel, rfl, by decide +kernel, by decide +kernel⟩
theorem lamT : Lam "_law_pair" ["_law_draws_here", "_law_at"] (lamArgs lamE) (lamScope lamE) :=
  ⟨rfl, rfl, rfl, by decide +kernel, rfl, fun _ _ _ _ _ _ _ _ => rfl, by decide +kernel⟩
theorem blkT {f : Addr} {A : Around} {outer : List Env} {s : Shared} {H : Hp} {E : XK} :
    Blk (cxOf CX0 P w K mg base nNet "_law_net" (defScope sNet) f (.ref c) A outer s H E).nox (lamScope lamE) [("_law_draws_here", s.heap.objs.size + 1), ("_law_at", s.heap.objs.size + 2)] ["_law_draws_here", "_law_at"] [some 0, some 1] := by
  refine ⟨rfl, rfl, by decide +kernel, by decide +kernel, fun p hp => ?_, fun y hy e => ?_, ⟨rfl, rfl, rfl⟩, ⟨rfl, rfl, rfl⟩, trivial⟩
  · rcases List.mem_cons.mp hp with rfl | hp
    · rfl
    · rw [List.mem_singleton.mp hp]
      rfl
  · have hy' : y ∈ [((PySem.Str.ofString "_law_pair" : Str), NameKind.local), (PySem.Str.ofString "_law_at", .free), (PySem.Str.ofString "_law_draws_here", .free), (PySem.Str.ofString "_law_draw", .globalImplicit)] := hy
    simp only [List.mem_cons, List.not_mem_nil, or_false] at hy'
    rcases hy' with rfl | rfl | rfl | rfl <;> first | rfl | cases e
theorem ok_net {f : Addr} {fd : FuncData} (F : FunC K "_law_net" "_law_net" sNet f fd c) (T : Bi mg) (hso : mg "sorted" = none) (hbm : BM mg base) (hC : PySem.W.codeHdIn K c Pt = true)
    (FD : FnE P w K mg base "_law_draw" ["_law_draws_here", "_law_k"] 1 (spDraw K)) :
    FnOk P w K mg base CX0 5 f fd ["_law_draws_here", "_law_at"] (spNet K Pt) := by
  refine F.ok scNet (fun vs H Q E h => ?_) (fun A outer s H vs Q E hr h => ?_)
  · obtain ⟨a, ns, rfl, _⟩ := h
    rfl
  · obtain ⟨a, ns, rfl, hS, hl, hT, q⟩ := h
    have hr1 : Room 1 _ := hr.mono (by decide)
    obtain ⟨n, hn⟩ : ∃ n : Nat, (3 : Int) + draw ns 8 % 6 = (n : Int) := ⟨(3 + draw ns 8 % 6).toNat, by have := mod_lo (n := draw ns 8) (p := 6) (by decide); omega⟩
    have hn8 : n ≤ 8 := by have := mod_hi (n := draw ns 8) (p := 6) (by decide); omega
    obtain ⟨tR, hR, rest⟩ : ∃ t, PSs (cxOf CX0 P w K mg base nNet "_law_net" (defScope sNet) f (.ref c) A outer s H E).nox ((defBody sNet).drop 6) t ∧ ∀ (H1 : Hp) (D : Addr) (tr : List (Addr × Nat × Nat)) (my : Int) (v4 v5 : Option V), Gr Pt lpos lqual H H1 → H1 D = some (.lst (tr.map fun x => V.ref x.1)) → (∀ x ∈ tr, H1 x.1 = some (.tup [.int (x.2.1 : Int), .int (x.2.2 : Int)])) → (tr.map (·.2)).Nodup → (∀ e ∈ tr.map (·.2), e.1 < e.2 ∧ e.2 < n) → tr.length ≤ 28 → my ≤ (tr.length : Int) →
        t { nx := fun _ H' => Q .non H', rt := Q } [some (.ref a), some (.int 8), some (.int (n : Int)), some (.ref D), v4, v5, some (.int my), none, none] H1 := by
      refine ⟨_, pss_cons (ps_set (i := 7) scNet.nd rfl (Or.inl rfl) (pe_lst pa_nil))
        (pss_cons (ps_for PassesOwn.never rfl (pi_range1 rfl T.range (pa_c (pe_callB (call_max2 rfl) rfl T.max bMax (pa_c pe_int (pa_c (pv 6) pa_nil))) pa_nil)) (pg_name (i := 8) scNet.nd rfl (Or.inl rfl))
          (pss_cons (ps_asg (pe_ix ix_list (pv 3) (pv 8) (fun _ _ => rfl)) (pg_tup rfl (pgs_cons (pg_name (i := 4) scNet.nd rfl (Or.inl rfl)) (pgs_cons (pg_name (i := 5) scNet.nd rfl (Or.inl rfl)) pgs_nil))))
          (pss_cons (ps_if (pt_cmpR op_eq (pe_op op_mod (pe_fc FD hr1 (pa_c (pv 0) (pa_c (pe_op op_add (pe_op op_add (pv 1) pe_int) (pv 8)) pa_nil))) pe_int) pe_int (nomark _)) (pss_one (ps_par (i := 4) (j := 5) rfl scNet.nd rfl rfl (by decide) rfl rfl (pa_c (pv 5) (pa_c (pv 4) pa_nil)) rfl)) pss_nil)
          (pss_one (ps_expr (pe_bm PySem.F.plainAttrs_list PySem.F.slot_list_append PySem.F.type_list_append mt_append (pv 7) (pa_c (pe_tup (pa_c (pv 4) (pa_c (pv 5) pa_nil))) pa_nil)))))))
        (pss_one (ps_ret (pe_tup (pa_c (pv 2) (pa_c (pe_callTy call_tuple_of rfl T.tuple bTuple (pa_c (pv 7) pa_nil)) pa_nil)))))), fun H1 D tr my v4 v5 G1 hD hU nd lt h28 hmy => ?_⟩
      refine ⟨(by show 0 ≤ sizeLine; decide), fun d hd => ?_⟩
      have hd0 : H d = none := G1.none hd
      have hDd : D ≠ d := ne_of_none hD hd
      obtain ⟨M, hM⟩ : ∃ M : Nat, (if my > 0 then my else 0) = (M : Int) := ⟨(if my > 0 then my else 0).toNat, by split <;> omega⟩
      have hMl : M ≤ tr.length := by split at hM <;> omega
      refine ⟨_, rfl, _, _, rfl, ?_⟩
      rw [hM]
      refine ⟨(M : Int), rfl, by omega, by omega, for_range (lo := 0) (n := ((M : Nat) : Int).toNat) (NvI Pt lpos lqual H a D d n my tr)
        ⟨[], [], v4, v5, none, rfl, G1.new hd, by rw [upd_ne hDd]; exact hD, fun x hx => by rw [upd_ne (ne_of_none (hU x hx) hd)]; exact hU x hx, upd_same, rfl, rfl, (fun j t e => by rw [List.getElem?_nil] at e; cases e), fun j hj => absurd hj (Nat.not_lt_zero _)⟩ (fun i σ G hi ⟨us, es, v4, v5, v8, e, g, gD, gU, gd, lu, le, hT1, hT2⟩ => ?_) (fun σ G ⟨us, es, v4, v5, v8, e, g, gD, gU, gd, lu, le, hT1, hT2⟩ => ?_)⟩
      · subst e
        rw [Int.toNat_natCast] at hi
        obtain ⟨x, hx⟩ : ∃ x, tr[i]? = some x := ⟨_, List.getElem?_eq_getElem (by omega)⟩
        have hxU := gU x (List.mem_of_getElem? hx)
        have hSG : SqL K G a (ns.map V.int) := g.sqL hT hS
        refine ⟨_, rfl, _, rfl, D, _, _, _, rfl, rfl, SqL.of gD, (by rw [Int.zero_add]; exact atI_nat (by rw [List.getElem?_map, hx]; rfl)), x.1, _, rfl, SqT.of hxU, rfl, _, _, rfl, _, _, rfl, rfl, ?_⟩
        refine ⟨_, rfl, _, rfl, _, _, rfl, rfl, _, rfl, _, _, rfl, rfl, a, ns, _, rfl, hSG, hl, by omega, by omega, _, _, rfl, rfl, (by show (0 : Int) < 2; decide), rfl, _, rfl, ?_⟩
        refine ite2 (fun _ => ?_) (fun _ => ?_)
        · refine ⟨_, rfl, _, rfl, _, _, rfl, ?_⟩
          refine ⟨_, rfl, .inl ⟨rfl, _, SqL.of gd⟩, _, rfl, _, rfl, (by show 2 ≤ sizeLine; decide), fun b hb => ⟨d, _, _, rfl, rfl, same_new hb _ _ gd, (by rw [sizeLine_eq]; omega), ?_⟩⟩
          exact NvI.add (e := (x.2.2, x.2.1)) hDd hd0 g gD gU gd lu le hT1 hT2 hx hb (.inr rfl) _ _ _
        · refine ⟨_, rfl, .inl ⟨rfl, _, SqL.of gd⟩, _, rfl, _, rfl, (by show 2 ≤ sizeLine; decide), fun b hb => ⟨d, _, _, rfl, rfl, same_new hb _ _ gd, (by rw [sizeLine_eq]; omega), ?_⟩⟩
          exact NvI.add (e := x.2) hDd hd0 g gD gU gd lu le hT1 hT2 hx hb (.inl rfl) _ _ _
      · subst e
        rw [Int.toNat_natCast] at lu le hT2
        refine ⟨_, rfl, _, rfl, d, _, rfl, .inl ⟨SqL.of gd, fun t ht => ⟨(by show 2 ≤ sizeLine; decide), fun p hp => ?_⟩⟩⟩
        have s1 : Same G (upd G t (.tup us)) := same_new ht
        have s2 : Same (upd G t (.tup us)) (upd (upd G t (.tup us)) p (.tup [.int (n : Int), .ref t])) := same_new hp
        have hes : ∀ j, j < es.length → ∃ x, tr[j]? = some x ∧ (es.getD j (0, 0) = x.2 ∨ es.getD j (0, 0) = (x.2.2, x.2.1)) := fun j hj => hT2 j (by omega)
        refine q _ p n t us es ((g.same s1).same s2) ⟨upd_same, s2 _ _ upd_same, by omega, fun i u h => ?_, by omega, by omega, fun e he => ?_⟩ (by omega) (plain_of nd (fun e he => (lt e he).1) fun j hj => ?_) hn8
        · obtain ⟨b, e1, e2⟩ := hT1 i u h
          exact ⟨b, e1, s2 _ _ (s1 _ _ e2)⟩
        · obtain ⟨j, hj⟩ := List.mem_iff_getElem?.mp he
          have hjl := (List.getElem?_eq_some_iff.mp hj).1
          obtain ⟨x, hx, ex⟩ := hes j hjl
          rw [List.getD_eq_getElem?_getD, hj] at ex
          have lx := lt x.2 (List.mem_map.mpr ⟨x, List.mem_of_getElem? hx, rfl⟩)
          rcases ex with ex | ex
          · rw [show e = x.2 from ex]
            omega
          · rw [show e = (x.2.2, x.2.1) from ex]
            show x.2.2 < n ∧ x.2.1 < n ∧ x.2.2 ≠ x.2.1
            omega
        · obtain ⟨x, hx, ex⟩ := hes j hj
          exact ⟨x.2, by rw [List.getElem?_map, hx]; rfl, ex⟩
    refine ⟨_, pss_cons (ps_set (i := 2) scNet.nd rfl (Or.inl rfl) (pe_op op_add pe_int (pe_op op_mod (pe_fc FD hr1 (pa_c (pv 0) (pa_c (pv 1) pa_nil))) pe_int)))
      (pss_cons (ps_set (i := 3) scNet.nd rfl (Or.inl rfl) (pe_lst pa_nil))
      (pss_cons (ps_for PassesOwn.never rfl (pi_range1 rfl T.range (pa_c (pv 2) pa_nil)) (pg_name (i := 4) scNet.nd rfl (Or.inl rfl))
        (pss_one (ps_for PassesOwn.never rfl (pi_range1 rfl T.range (pa_c (pv 4) pa_nil)) (pg_name (i := 5) scNet.nd rfl (Or.inl rfl))
          (pss_one (ps_expr (pe_bm PySem.F.plainAttrs_list PySem.F.slot_list_append PySem.F.type_list_append mt_append (pv 3) (pa_c (pe_tup (pa_c (pv 5) (pa_c (pv 4) pa_nil))) pa_nil)))))))
      (pss_cons (ps_set (i := 3) scNet.nd rfl (Or.inl rfl) (pe_sortLamR (k := 1) (x := "_law_pair") (P := Pt) (qual := lqual) blkT lamT hbm rfl hC rfl rfl hr rfl hso (pv 3)
          (fun f' c' A' s' H' hr' => pe_fc FD hr' (pa_c (pv 1) (pa_c (pe_op op_add (pe_op op_add (pe_op op_add (pv 2) pe_int) (pe_op op_mul pe_int (pe_ix (ix_tupX (K := K) rfl) (pv 0) pe_int (fun _ _ => rfl)))) (pe_ix (ix_tupX (K := K) rfl) (pv 0) pe_int (fun _ _ => rfl))) pa_nil)))))
      (pss_cons (ps_set (i := 6) scNet.nd rfl (Or.inl rfl) (pe_op op_sub (pe_callB call_len_seq rfl T.len bLen (pa_c (pv 3) pa_nil)) (pe_op op_mod (pe_op op_fdiv (pe_fc FD hr1 (pa_c (pv 0) (pa_c (pe_op op_add (pv 1) pe_int) pa_nil))) pe_int) pe_int)))
      (pss_cons (ps_if (pt_cmpR op_eq (pe_op op_mod (pe_fc FD hr1 (pa_c (pv 0) (pa_c (pe_op op_add (pv 1) pe_int) pa_nil))) pe_int) pe_int (nomark _)) (pss_one (ps_set (i := 6) scNet.nd rfl (Or.inl rfl) (pe_callB (call_min2 rfl) rfl T.min bMin (pa_c (pe_callB call_len_seq rfl T.len bLen (pa_c (pv 3) pa_nil)) (pa_c (pe_op op_mod (pe_op op_fdiv (pe_fc FD hr1 (pa_c (pv 0) (pa_c (pe_op op_add (pv 1) pe_int) pa_nil))) pe_int) pe_int) pa_nil))))) pss_nil) hR))))), ?_⟩
    refine ⟨_, rfl, _, rfl, a, ns, _, rfl, hS, hl, by omega, by omega, _, _, rfl, rfl, (by show (0 : Int) < 6; decide), _, _, rfl, rfl, ?_⟩
    dsimp only [gName]
    rw [hn]
    refine ⟨(by show 0 ≤ sizeLine; decide), fun pl hpl => ?_⟩
    have s0 : Same H (upd H pl (.lst [])) := same_new hpl
    have step : ∀ (i j : Nat) (tr : List (Addr × Nat × Nat)) (G : Hp) (b : Addr), Same H G → G pl = some (.lst (tr.map fun x => V.ref x.1)) → (∀ x ∈ tr, G x.1 = some (.tup [.int (x.2.1 : Int), .int (x.2.2 : Int)])) → G b = none → Same H (upd (upd G b (.tup [.int (j : Int), .int (i : Int)])) pl (.lst ((tr.map fun x => V.ref x.1) ++ [.ref b]))) ∧ (upd (upd G b (.tup [.int (j : Int), .int (i : Int)])) pl (.lst ((tr.map fun x => V.ref x.1) ++ [.ref b]))) pl = some (.lst ((tr ++ [(b, j, i)]).map fun x => V.ref x.1)) ∧ ∀ x ∈ tr ++ [(b, j, i)], (upd (upd G b (.tup [.int (j : Int), .int (i : Int)])) pl (.lst ((tr.map fun x => V.ref x.1) ++ [.ref b]))) x.1 = some (.tup [.int (x.2.1 : Int), .int (x.2.2 : Int)]) := fun i j tr G b sG gp gU hb => by
      have gp2 := same_new (o := HO.tup [.int (j : Int), .int (i : Int)]) hb _ _ gp
      refine ⟨(Same.trans sG (same_new hb)).wr hpl, by rw [upd_same, List.map_append]; rfl, fun x hx => ?_⟩
      rcases List.mem_append.mp hx with hx | hx
      · exact tk_lst gp2 _ _ (same_new hb _ _ (gU x hx))
      · rw [List.mem_singleton.mp hx]
        show (upd (upd G b _) pl _) b = _
        rw [upd_ne (Ne.symm (ne_of_none gp hb))]
        exact upd_same
    refine ⟨_, rfl, (n : Int), rfl, by omega, by omega, for_range (lo := 0) (n := ((n : Nat) : Int).toNat) (fun i σ G => ∃ (tr : List (Addr × Nat × Nat)) (v4 v5 : Option V), σ = [some (.ref a), some (.int 8), some (.int (n : Int)), some (.ref pl), v4, v5, none, none, none] ∧ Same H G ∧ G pl = some (.lst (tr.map fun x => V.ref x.1)) ∧ (∀ x ∈ tr, G x.1 = some (.tup [.int (x.2.1 : Int), .int (x.2.2 : Int)])) ∧ tr.map (·.2) = prs i)
      ⟨[], none, none, rfl, s0, upd_same, (fun x hx => by cases hx), rfl⟩ (fun i σ G hi ⟨tr, v4, v5, e, sG, gp, gU, et⟩ => ?_) (fun σ G ⟨tr, v4, v5, e, sG, gp, gU, et⟩ => ?_)⟩
    · subst e
      rw [Int.toNat_natCast] at hi
      have hpi := prs_28 (n := i) (by omega)
      rw [Int.zero_add]
      refine ⟨_, rfl, (i : Int), rfl, by omega, by omega, for_range (lo := 0) (n := ((i : Nat) : Int).toNat) (fun j σ G => ∃ (tr : List (Addr × Nat × Nat)) (v5 : Option V), σ = [some (.ref a), some (.int 8), some (.int (n : Int)), some (.ref pl), some (.int (i : Int)), v5, none, none, none] ∧ Same H G ∧ G pl = some (.lst (tr.map fun x => V.ref x.1)) ∧ (∀ x ∈ tr, G x.1 = some (.tup [.int (x.2.1 : Int), .int (x.2.2 : Int)])) ∧ tr.map (·.2) = prs i ++ (List.range j).map fun b => (b, i))
        ⟨tr, v5, rfl, sG, gp, gU, by rw [et]; exact (List.append_nil _).symm⟩ (fun j σ G hj ⟨tr, v5, e, sG, gp, gU, et⟩ => ?_) (fun σ G ⟨tr, v5, e, sG, gp, gU, et⟩ => ?_)⟩
      · subst e
        rw [Int.toNat_natCast] at hj
        have hlt : tr.length = (prs i).length + j := by
          have := congrArg List.length et
          rw [List.length_map, List.length_append, List.length_map, List.length_range] at this
          exact this
        rw [Int.zero_add]
        refine ⟨_, rfl, .inl ⟨rfl, _, SqL.of gp⟩, _, rfl, _, rfl, (by show 2 ≤ sizeLine; decide), fun b hb => ⟨pl, _, _, rfl, rfl, same_new hb _ _ gp, (by rw [List.length_map, sizeLine_eq]; omega), ?_⟩⟩
        obtain ⟨z1, z2, z3⟩ := step i j tr G b sG gp gU hb
        refine ⟨tr ++ [(b, j, i)], _, rfl, z1, z2, z3, ?_⟩
        rw [List.map_append, et, List.range_succ, List.map_append, List.append_assoc]
        rfl
      · subst e
        rw [Int.toNat_natCast] at et
        exact ⟨tr, _, _, rfl, sG, gp, gU, et⟩
    subst e
    rw [Int.toNat_natCast] at et
    have hL : tr.length = (prs n).length := by rw [← et, List.length_map]
    have h28 := prs_28 hn8
    have hTG := hT.same sG
    refine ⟨_, rfl, pl, tr.map (·.1), keyOf G ns, [.ref a, .int 8], rfl, (by rw [List.map_map]; exact SqL.of gp), (by rw [List.length_map]; omega), hTG, rfl, fun H2 g2 => ⟨fun b hb => ?_, fun D as' hD hP => ?_⟩⟩
    · obtain ⟨x, hx, rfl⟩ := List.mem_map.mp hb
      have hxG := gU x hx
      have hx2 := g2.tk hTG _ _ hxG
      have lx := prs_mem (n := n) (e := x.2) (by rw [← et]; exact List.mem_map.mpr ⟨x, hx, rfl⟩)
      refine ⟨_, rfl, _, rfl, _, _, rfl, rfl, _, rfl, x.1, _, _, _, rfl, rfl, SqT.of hx2, rfl, _, _, rfl, rfl, .inl ⟨by decide, by decide⟩, _, _, rfl, rfl, _, rfl, x.1, _, _, _, rfl, rfl, SqT.of hx2, rfl, _, _, rfl, rfl, a, ns, _, rfl, g2.sqL hTG (sG.seq hS), hl, by omega, by omega, ?_, rfl⟩
      unfold keyOf
      rw [hxG]
    obtain ⟨tr', hP', e'⟩ := perm_map hP.symm tr rfl
    have G2 : Gr Pt lpos lqual H H2 := ⟨fun b o e n => g2.keep b o (sG b o e) n, g2.tab⟩
    have G3 := G2.new (o := HO.lst (as'.map V.ref)) hD
    have hS3 : SqL K (upd H2 D (.lst (as'.map V.ref))) a (ns.map V.int) := G3.sqL hT hS
    have hD3 : (upd H2 D (.lst (as'.map V.ref))) D = some (.lst (tr'.map fun x => V.ref x.1)) := by rw [upd_same, ← e', List.map_map]; rfl
    have hU3 : ∀ x ∈ tr', (upd H2 D (.lst (as'.map V.ref))) x.1 = some (.tup [.int (x.2.1 : Int), .int (x.2.2 : Int)]) := fun x hx => same_new hD _ _ (g2.tk hTG _ _ (gU x (hP'.mem_iff.mp hx)))
    have nd3 : (tr'.map (·.2)).Nodup := (hP'.map (·.2)).nodup_iff.mpr (by rw [et]; exact prs_nodup n)
    have lt3 : ∀ e ∈ tr'.map (·.2), e.1 < e.2 ∧ e.2 < n := fun e he => prs_mem (by rw [← et]; exact (hP'.map (·.2)).mem_iff.mp he)
    have hl3 : tr'.length ≤ 28 := by rw [hP'.length_eq, hL]; exact h28
    generalize upd H2 D (.lst (as'.map V.ref)) = H3 at G3 hS3 hD3 hU3 ⊢
    refine ⟨_, rfl, D, _, rfl, .inl (SqL.of hD3), _, rfl, _, rfl, _, _, rfl, rfl, a, ns, _, rfl, hS3, hl, by omega, by omega, _, _, rfl, rfl, ⟨by decide, by decide⟩, _, _, rfl, rfl, (by show (0 : Int) < 4; decide), _, _, rfl, rfl, ?_⟩
    refine ⟨_, rfl, _, rfl, _, _, rfl, rfl, a, ns, _, rfl, hS3, hl, by omega, by omega, _, _, rfl, rfl, (by show (0 : Int) < 2; decide), rfl, _, rfl, ?_⟩
    refine ite2 (fun _ => ?_) (fun _ => ?_)
    · refine ⟨_, rfl, D, _, rfl, .inl (SqL.of hD3), _, rfl, _, rfl, _, _, rfl, rfl, a, ns, _, rfl, hS3, hl, by omega, by omega, _, _, rfl, rfl, ⟨by decide, by decide⟩, _, _, rfl, rfl, (by show (0 : Int) < 15; decide), _, _, rfl, ?_⟩
      refine rest H3 D tr' _ _ _ G3 hD3 hU3 nd3 lt3 hl3 ?_
      rw [List.length_map]
      split <;> omega
    · refine rest H3 D tr' _ _ _ G3 hD3 hU3 nd3 lt3 hl3 ?_
      rw [List.length_map]
      have := mod_lo (n := draw ns (8 + 1) / 2) (p := 4) (by decide)
      omega
end
end My
set_option Elab.async false
set_option linter.all false
set_option maxRecDepth 100000
set_option maxHeartbeats 4000000
namespace My
open PySem L2
def lmE : Stmt → Expr
  | .For _ _ (.Expr (.Call _ [.Call _ [e] _ _] _ _) _ :: _) _ _ => e
  | _ => .Constant .none 0 ⟨0, 0, 0, 0⟩
theorem max_dl {es : List (Nat × Nat)} {n : Nat} {M : Int} (h : M ∈ (0 : Int) :: dl es n) (hm : ∀ a ∈ (0 : Int) :: dl es n, a ≤ M) : IsMax (dl es n) M := by
  rcases List.mem_cons.mp h with rfl | h
  · cases n with
    | zero => exact .inl ⟨rfl, rfl⟩
    | succ n =>
      refine .inr ⟨?_, fun a ha => hm a (.tail _ ha)⟩
      have hin : ((dg es es.length 0 : Nat) : Int) ∈ dl es (n + 1) := List.mem_map.mpr ⟨0, List.mem_range.mpr (Nat.succ_pos _), rfl⟩
      have := hm _ (.tail _ hin)
      have e : ((dg es es.length 0 : Nat) : Int) = 0 := by omega
      rw [e] at hin
      exact hin
  · exact .inr ⟨h, fun a ha => hm a (.tail _ ha)⟩
section
variable {P : Program} {w : World} {K : PySem.W.Frag} {mg : Str → Option Value} {base : Heap}
abbrev sLm : Stmt := top 33
abbrev nLm : List Str := ["_law_net_here", "_law_crowded", "_law_point"]
abbrev lmS : Scope := compScope (lmE (stOf 33 1))
theorem ndLm : (["_law_tie", "_law_point"] : List Str).Nodup := by decide +kernel
theorem scLm : FnScope nLm ["_law_net_here"] (defScope sLm) := ⟨rfl, rfl, rfl, by decide +kernel, rfl, by decide +kernel, by decide +kernel⟩
theorem blkLm {f : Addr} {cdv : Value} {A : Around} {outer : List Env} {s : Shared} {H : Hp} {E : XK} :
    Blk (cxOf CX0 P w K mg base nLm "_law_most" (defScope sLm) f cdv A outer s H E).nox lmS [("_law_point", s.heap.objs.size + 1)] ["_law_tie", "_law_point"] [none, some 2] := by
  refine ⟨rfl, rfl, by decide +kernel, by decide +kernel, fun p hp => ?_, fun y hy e => ?_, ⟨rfl, rfl, rfl⟩, trivial⟩
  · rw [List.mem_singleton.mp hp]
    rfl
  · have hy' : y ∈ [((PySem.Str.ofString ".0" : Str), NameKind.local), (PySem.Str.ofString "_law_tie", .local), (PySem.Str.ofString "_law_point", .free)] := hy
    simp only [List.mem_cons, List.not_mem_nil, or_false] at hy'
    rcases hy' with rfl | rfl | rfl <;> first | rfl | cases e
theorem ok_lm {f : Addr} {fd : FuncData} (F : Fun K "_law_most" "_law_most" sLm f fd) (T : Bi mg) : FnOk P w K mg base CX0 1 f fd ["_law_net_here"] spMo := by
  refine F.ok scLm (fun vs H Q E h => ?_) (fun cdv A outer s H vs Q E hr h => ?_)
  · obtain ⟨p, n, q, ts, es, rfl, _⟩ := h
    rfl
  · obtain ⟨p, n, qa, ts, es, rfl, N, q⟩ := h
    refine ⟨_, pss_cons (ps_set (i := 1) scLm.nd rfl (Or.inl rfl) (pe_lst (pa_c pe_int pa_nil)))
      (pss_cons (ps_for PassesOwn.never rfl (pi_range1 rfl T.range (pa_c (pe_ix ix_tup (pv 0) pe_int (fun _ _ => rfl)) pa_nil)) (pg_name (i := 2) scLm.nd rfl (Or.inr rfl))
        (pss_one (ps_expr (pe_bm PySem.F.plainAttrs_list PySem.F.slot_list_append PySem.F.type_list_append mt_append (pv 1) (pa_c (pe_callB call_len_seq rfl T.len bLen (pa_c (pe_lcT blkLm rfl (pe_ix ix_tup (pv 0) pe_int (fun _ _ => rfl)) (mono_ixT (mono_var 0) (mono_c _)) (fun C fp s H => pg_name (i := 0) ndLm rfl (Or.inl rfl))
          (fun C fp s H => pts_one (pt_cmpR (op_inK (K := K) rfl) (pv 1) (pv 0) rfl)) (fun C fp s H => pv 0)) pa_nil)) pa_nil)))))
      (pss_one (ps_ret (pe_callB (call_maxs rfl) rfl T.max bMax (pa_c (pv 1) pa_nil))))), ?_⟩
    have h60 := N.n60
    have h200 := N.l200
    have hlen := N.len
    refine ⟨(by show 1 ≤ sizeLine; decide), fun cr hcr => ?_⟩
    have s0 : Same H (upd H cr (.lst [.int 0])) := same_new hcr
    refine ⟨_, rfl, p, _, _, _, rfl, rfl, SqT.of (s0 _ _ N.e1), rfl, (n : Int), rfl, by omega, by omega, for_range (lo := 0) (n := ((n : Nat) : Int).toNat) (fun i σ G => ∃ v2, σ = [some (.ref p), some (.ref cr), v2] ∧ Same H G ∧ G cr = some (.lst (((0 : Int) :: dl es i).map V.int)))
      ⟨_, rfl, s0, upd_same⟩ (fun i σ G hi ⟨v2, e, sG, gc⟩ => ?_) (fun σ G ⟨v2, e, sG, gc⟩ => ?_)⟩
    · subst e
      rw [Int.toNat_natCast] at hi
      rw [Int.zero_add]
      refine ⟨_, rfl, .inl ⟨rfl, _, SqL.of gc⟩, _, rfl, p, _, _, _, rfl, rfl, SqT.of (sG _ _ N.e1), rfl, qa, _, rfl, SqT.of (sG _ _ N.e2), (by omega), fun j ys σ G' => Same G G' ∧ ys.length = dg es j i ∧ ∃ v0, σ = [v0, some (.int (i : Int))], ⟨Same.refl _, rfl, none, rfl⟩, fun j ys σ G' hj ⟨s1, e1, _⟩ => ⟨SqT.of (s1 _ _ (sG _ _ N.e2)), by rw [e1]; exact dg_le _ _ _⟩, fun j x ys σ G' hx ⟨s1, e1, v0, e⟩ => ?_, fun ys σ G' ⟨s1, e1, _⟩ l G2 s2 hl => ?_⟩
      · subst e
        obtain ⟨a, rfl, ha⟩ := N.tie j x hx
        refine ⟨_, rfl, _, rfl, a, _, rfl, .inr (SqT.of (s1 _ _ (sG _ _ ha))), rfl, rfl, _, rfl, ?_⟩
        refine ite2 (fun z => ⟨_, rfl, s1, ?_, _, rfl⟩) (fun z => ⟨s1, ?_, _, rfl⟩)
        · rw [List.length_append, e1, dg_succ, if_pos (atB_iff.mpr ((in_at _ _).mp z))]
          rfl
        · rw [e1, dg_succ, if_neg (fun y => z ((in_at _ _).mpr (atB_iff.mp y)))]
          rfl
      · have s12 := Same.trans s1 s2
        refine ⟨l, _, rfl, .inl (SqL.of hl), cr, _, _, rfl, rfl, s12 _ _ gc, (by rw [List.length_map, List.length_cons, sizeLine_eq]; unfold dl; rw [List.length_map, List.length_range]; omega), ?_⟩
        refine ⟨_, rfl, (Same.trans sG s12).wr hcr, ?_⟩
        rw [upd_same, e1, hlen]
        unfold dl
        rw [List.range_succ, List.map_append, ← List.cons_append, List.map_append]
        rfl
    · subst e
      rw [Int.toNat_natCast] at gc
      refine ⟨_, rfl, cr, _, rfl, .inl (SqL.of gc), (by rw [List.length_cons]; exact Nat.succ_pos _), fun M h1 h2 => q G M sG (max_dl h1 h2)⟩
abbrev sIc : Stmt := top 36
abbrev nIc : List Str := ["_law_net_here", "_law_tints_here", "_law_taken", "_law_k", "_law_point"]
def spIc : Sp := fun vs H Q _ => ∃ p l n q ts es tl, vs = [.ref p, .ref l] ∧ NetZ H p n q ts es ∧ H l = some (.lst (tv tl)) ∧ tl.length = es.length ∧ CleanTo es tl es.length ∧ ∀ H', Same H H' → Q (.bl true) H'
theorem scIc : FnScope nIc ["_law_net_here", "_law_tints_here"] (defScope sIc) := ⟨rfl, rfl, rfl, by decide +kernel, rfl, by decide +kernel, by decide +kernel⟩
theorem ok_ic {f : Addr} {fd : FuncData} (F : Fun K "_law_is_clean" "_law_is_clean" sIc f fd) (T : Bi mg) : FnOk P w K mg base CX0 1 f fd ["_law_net_here", "_law_tints_here"] spIc := by
  refine F.ok scIc (fun vs H Q E h => ?_) (fun cdv A outer s H vs Q E hr h => ?_)
  · obtain ⟨p, l, n, q, ts, es, tl, rfl, _⟩ := h
    rfl
  · obtain ⟨p, l, n, qa, ts, es, tl, rfl, N, hL, htl, hC, q⟩ := h
    have hu := hu_of hr
    refine ⟨_, pss_cons (ps_set (i := 2) scIc.nd rfl (Or.inl rfl) pe_dnewT)
      (pss_cons (ps_for PassesOwn.never rfl (pi_range1 rfl T.range (pa_c (pe_callB call_len_seq rfl T.len bLen (pa_c (pv 1) pa_nil)) pa_nil)) (pg_name (i := 3) scIc.nd rfl (Or.inl rfl))
        (pss_one (ps_if (pt_cmpR op_notN (pe_ix ix_list (pv 1) (pv 3) (fun _ _ => rfl)) pe_non (nomark _))
          (pss_one (ps_for PassesOwn.never rfl (pi_tup (pe_ix ix_tup (pe_ix ix_tup (pv 0) pe_int (fun _ _ => rfl)) (pv 3) (fun _ _ => rfl))) (pg_name (i := 4) scIc.nd rfl (Or.inl rfl))
            (pss_cons (ps_if (pt_cmp (pc_din hu (pe_tupS (pa_c (pv 4) (pa_c (pe_ix ix_list (pv 1) (pv 3) (fun _ _ => rfl)) pa_nil))) (pv 2))) pss_never pss_nil)
            (pss_one (ps_dput hu (pv 2) (pe_tupS (pa_c (pv 4) (pa_c (pe_ix ix_list (pv 1) (pv 3) (fun _ _ => rfl)) pa_nil))) pe_bl rfl))))) pss_nil)))
      (pss_one (ps_ret pe_bl))), ?_⟩
    have h200 := N.l200
    intro d hd
    have s0 : Same H (upd H d (.dT [])) := same_new hd
    refine ⟨_, rfl, l, _, rfl, .inl (SqL.of (s0 _ _ hL)), _, rfl, by omega, (by rw [tv_len]; omega), for_range (lo := 0) (n := (((tv tl).length : Nat) : Int).toNat) (fun i σ G => ∃ kvs v3 v4, σ = [some (.ref p), some (.ref l), some (.ref d), v3, v4] ∧ Same H G ∧ G d = some (.dT kvs) ∧ kvs.length ≤ 2 * i ∧ Keys kvs (Used es tl i))
      ⟨[], _, _, rfl, s0, upd_same, Nat.le_refl _, fun p t => ⟨(fun z => by cases z), fun z => absurd z Used.zero⟩⟩ (fun i σ G hi ⟨kvs, v3, v4, e, sG, gD, hkv, hK⟩ => ?_) (fun σ G ⟨kvs, v3, v4, e, sG, gD, hkv, hK⟩ => q G sG)⟩
    subst e
    rw [tv_len] at hi
    have hie : i < es.length := by omega
    obtain ⟨o, ho⟩ : ∃ o, tl[i]? = some o := ⟨_, List.getElem?_eq_getElem (by omega)⟩
    obtain ⟨a, ha1, ha⟩ := N.at' hie
    have hok := N.ok _ (getD_mem hie)
    have g1 : atI (tv tl) (0 + (i : Int)) = some (tN o) := by rw [Int.zero_add]; exact atI_nat (tv_get ho)
    refine ⟨_, rfl, _, rfl, l, _, _, _, rfl, rfl, SqL.of (sG _ _ hL), g1, rfl, _, rfl, ?_⟩
    cases o with
    | none =>
      refine iteF ⟨kvs, _, _, rfl, sG, gD, by omega, hK.iff fun x t => ?_⟩
      rw [Used.succ, ho]
      exact ⟨.inl, fun z => z.elim id fun ⟨z1, _⟩ => by cases z1⟩
    | some t =>
      refine iteT ?_
      have n1 : ∀ x, At (es.getD i (0, 0)) x → ¬ Used es tl i x t := fun x hx ⟨j, a1, a2, a3⟩ => hC i j t a1 hie ho a2 x hx a3
      generalize hA : (es.getD i (0, 0)).1 = A1 at *
      generalize hB : (es.getD i (0, 0)).2 = B1 at *
      refine ⟨_, rfl, p, _, _, _, rfl, rfl, SqT.of (sG _ _ N.e1), rfl, _, rfl, qa, _, _, _, rfl, rfl, SqT.of (sG _ _ N.e2), (by rw [Int.zero_add]; exact atI_nat ha1), a, rfl, ⟨_, SqT.of (sG _ _ ha)⟩, for_tup (K := K) (a := a) (xs := [.int (A1 : Int), .int (B1 : Int)]) (fun j σ G' => ∃ kvs' w4, σ = [some (.ref p), some (.ref l), some (.ref d), some (.int (0 + (i : Int))), w4] ∧ Same H G' ∧ G' d = some (.dT kvs') ∧ kvs'.length ≤ 2 * i + j ∧ Keys kvs' (fun x t' => Used es tl i x t' ∨ (t' = t ∧ ((1 ≤ j ∧ x = A1) ∨ (2 ≤ j ∧ x = B1)))))
        ⟨kvs, _, rfl, sG, gD, by omega, hK.iff fun x t' => ⟨.inl, fun z => z.elim id fun ⟨_, z2⟩ => by omega⟩⟩ (fun j σ G' _ ⟨kvs', w4, _, sG', _⟩ => SqT.of (sG' _ _ ha)) (fun j x σ G' hx' ⟨kvs', w4, e, sG', gD', gk, gK⟩ => ?_) (fun σ G' ⟨kvs', w4, e, sG', gD', gk, gK⟩ => ?_)⟩
      · subst e
        obtain ⟨X1, rfl, hj2, hat, hnot, hks⟩ : ∃ X1 : Nat, x = .int (X1 : Int) ∧ j < 2 ∧ At (es.getD i (0, 0)) X1 ∧ ((Used es tl i X1 t ∨ (t = t ∧ ((1 ≤ j ∧ X1 = A1) ∨ (2 ≤ j ∧ X1 = B1)))) → Used es tl i X1 t) ∧
            (∀ x' t', ((Used es tl i x' t' ∨ (t' = t ∧ ((1 ≤ j ∧ x' = A1) ∨ (2 ≤ j ∧ x' = B1)))) ∨ (x' = X1 ∧ t' = t)) ↔ (Used es tl i x' t' ∨ (t' = t ∧ ((1 ≤ j + 1 ∧ x' = A1) ∨ (2 ≤ j + 1 ∧ x' = B1))))) := by
          match j, hx' with
          | 0, hx' =>
            cases hx'
            refine ⟨A1, rfl, by decide, .inl hA.symm, fun z => z.elim id fun ⟨_, z⟩ => by omega, fun x' t' => ?_⟩
            constructor
            · rintro ((z | ⟨_, z⟩) | ⟨rfl, rfl⟩)
              · exact .inl z
              · omega
              · exact .inr ⟨rfl, .inl ⟨by decide, rfl⟩⟩
            · rintro (z | ⟨rfl, ⟨_, rfl⟩ | ⟨z, _⟩⟩)
              · exact .inl (.inl z)
              · exact .inr ⟨rfl, rfl⟩
              · omega
          | 1, hx' =>
            cases hx'
            refine ⟨B1, rfl, by decide, .inr hB.symm, fun z => z.elim id fun ⟨_, z⟩ => by omega, fun x' t' => ?_⟩
            constructor
            · rintro ((z | ⟨rfl, z⟩) | ⟨rfl, rfl⟩)
              · exact .inl z
              · exact .inr ⟨rfl, by omega⟩
              · exact .inr ⟨rfl, .inr ⟨by decide, rfl⟩⟩
            · rintro (z | ⟨rfl, ⟨_, rfl⟩ | ⟨z, rfl⟩⟩)
              · exact .inl (.inl z)
              · exact .inl (.inr ⟨rfl, .inl ⟨by decide, rfl⟩⟩)
              · exact .inr ⟨rfl, rfl⟩
          | j + 2, hx' => cases hx'
        refine ⟨_, rfl, _, rfl, _, rfl, l, _, _, _, rfl, rfl, SqL.of (sG' _ _ hL), g1, rfl, fun t1 G1 u1 h1 => ⟨_, rfl, d, _, rfl, DGet.t (k := ky X1 t) (u1 _ _ gD') h1, _, rfl, ?_⟩⟩
        refine ite2 (fun hz => absurd (hnot ((gK _ _).mp hz)) (n1 X1 hat)) (fun _ => ?_)
        have sG1 := Same.trans sG' u1
        have l1 := length_putK kvs' (ky X1 t) (V.bl true)
        refine ⟨_, rfl, _, rfl, _, rfl, _, rfl, l, _, _, _, rfl, rfl, SqL.of (sG1 _ _ hL), g1, rfl, fun t2 G2 u2 h2 => ⟨d, _, rfl, DPut.t (k := ky X1 t) (u2 _ _ (u1 _ _ gD')) h2 (by rw [sizeLine_eq]; omega), ?_⟩⟩
        exact ⟨_, _, rfl, (Same.trans sG1 u2).wr hd, upd_same, by omega, (gK.put _ _ _).iff hks⟩
      · subst e
        refine ⟨kvs', _, _, rfl, sG', gD', gk, gK.iff fun x t' => ?_⟩
        rw [Used.succ, ho]
        constructor
        · rintro (z | ⟨rfl, ⟨_, rfl⟩ | ⟨_, rfl⟩⟩)
          · exact .inl z
          · exact .inr ⟨rfl, .inl hA.symm⟩
          · exact .inr ⟨rfl, .inr hB.symm⟩
        · rintro (z | ⟨z, hx⟩)
          · exact .inl z
          · have et : t' = t := (Option.some.inj (Option.some.inj z)).symm
            refine .inr ⟨et, ?_⟩
            rcases hx with hx | hx
            · exact .inl ⟨(by show 1 ≤ 2; decide), hx.trans hA⟩
            · exact .inr ⟨(by show 2 ≤ 2; decide), hx.trans hB⟩
abbrev sTi : Stmt := top 34
abbrev nTi : List Str := ["_law_draws_here", "_law_at", "_law_net_here", "_law_many", "_law_taken", "_law_found", "_law_k", "_law_number", "_law_mine", "_law_step_here", "_law_tint"]
def spTi (K : PySem.W.Frag) : Sp := fun vs H Q _ => ∃ (a : Addr) (ns : List Int) (p : Addr) (n : Nat) (q : Addr) (ts : List V) (es : List (Nat × Nat)) (m : Nat), vs = [.ref a, .int 200, .ref p, .int (m : Int)] ∧ SqL K H a (ns.map V.int) ∧ Dr ns ∧ es.length ≤ 28 ∧ NetZ H p n q ts es ∧ m ≤ 1000 ∧
  ∀ (H' : Hp) (r : Addr) (tl : List (Option Nat)), Same H H' → H' r = some (.tup (tv tl)) → tl.length = es.length → CleanTo es tl es.length → Q (.ref r) H'
theorem scTi : FnScope nTi ["_law_draws_here", "_law_at", "_law_net_here", "_law_many"] (defScope sTi) := ⟨rfl, rfl, rfl, by decide +kernel, rfl, by decide +kernel, by decide +kernel⟩
theorem ok_ti {f : Addr} {fd : FuncData} (F : Fun K "_law_tints" "_law_tints" sTi f fd) (T : Bi mg) (FD : FnE P w K mg base "_law_draw" ["_law_draws_here", "_law_k"] 1 (spDraw K)) : FnOk P w K mg base CX0 2 f fd ["_law_draws_here", "_law_at", "_law_net_here", "_law_many"] (spTi K) := by
  refine F.ok scTi (fun vs H Q E h => ?_) (fun cdv A outer s H vs Q E hr h => ?_)
  · obtain ⟨a, ns, p, n, q, ts, es, m, rfl, _⟩ := h
    rfl
  · obtain ⟨a, ns, p, n, qa, ts, es, m, rfl, hS, hl, h28, N, hm, q⟩ := h
    have hu := hu_of hr
    obtain ⟨tT, hTT, rT⟩ : ∃ t, PSs (cxOf CX0 P w K mg base nTi "_law_tints" (defScope sTi) f cdv A outer s H E).nox ((forB (stOf 34 2)).drop 3) t ∧
        ∀ (D : Ends) (k : Nat) (kvs : List (List Key × V)) (tl : List (Option Nat)) (mine : Option Nat) (G : Hp) (v7 v9 v10 : Option V) {d l : Addr}, k < es.length →
          Same H G → G d = some (.dT kvs) → G l = some (.lst (tv tl)) → kvs.length ≤ 2 * k → tl.length = k → CleanTo es tl k → Keys kvs (Used es tl k) → (∀ t, mine = some t → ¬ Used es tl k (es.getD k (0, 0)).1 t ∧ ¬ Used es tl k (es.getD k (0, 0)).2 t) → H d = none → H l = none →
          (∀ (G' : Hp) (kvs' : List (List Key × V)) (tl' : List (Option Nat)), Same H G' → G' d = some (.dT kvs') → G' l = some (.lst (tv tl')) → kvs'.length ≤ 2 * (k + 1) → tl'.length = k + 1 → CleanTo es tl' (k + 1) → Keys kvs' (Used es tl' (k + 1)) →
            D.nx [some (.ref a), some (.int 200), some (.ref p), some (.int (m : Int)), some (.ref d), some (.ref l), some (.int (0 + (k : Int))), v7, some (tN mine), v9, v10] G') →
          t D [some (.ref a), some (.int 200), some (.ref p), some (.int (m : Int)), some (.ref d), some (.ref l), some (.int (0 + (k : Int))), v7, some (tN mine), v9, v10] G := by
      refine ⟨_, (pss_cons (ps_if (pt_cmpR op_notN (pv 8) pe_non (nomark _))
          (pss_cons (ps_dput hu (pv 4) (pe_tupS (pa_c (pe_ix ix_tup (pe_ix ix_tup (pe_ix ix_tup (pv 2) pe_int (fun _ _ => rfl)) (pv 6) (fun _ _ => rfl)) pe_int (fun _ _ => rfl)) (pa_c (pv 8) pa_nil))) pe_bl rfl)
          (pss_one (ps_dput hu (pv 4) (pe_tupS (pa_c (pe_ix ix_tup (pe_ix ix_tup (pe_ix ix_tup (pv 2) pe_int (fun _ _ => rfl)) (pv 6) (fun _ _ => rfl)) pe_int (fun _ _ => rfl)) (pa_c (pv 8) pa_nil))) pe_bl rfl))) pss_nil)
        (pss_one (ps_expr (pe_bm PySem.F.plainAttrs_list PySem.F.slot_list_append PySem.F.type_list_append mt_append (pv 5) (pa_c (pv 8) pa_nil))))), fun D k kvs tl mine G v7 v9 v10 {d l} hke sG gD gL hkv htl hC hK gm hd hlH fin => ?_⟩
      have h200 := N.l200
      obtain ⟨tk, htk, hta⟩ := N.at' hke
      have hix : atI ts (0 + (k : Int)) = some (.ref tk) := by rw [Int.zero_add]; exact atI_nat htk
      have happ : (tl ++ [mine])[k]? = some mine := by rw [List.getElem?_append_right (by omega), htl, Nat.sub_self]; rfl
      have tvapp : tv tl ++ [tN mine] = tv (tl ++ [mine]) := by unfold tv; rw [List.map_append]; rfl
      have hsz : (tv tl).length < sizeLine := by rw [tv_len, sizeLine_eq]; omega
      have hdl : d ≠ l := fun z => by rw [z, gL] at gD; cases gD
      refine ⟨_, rfl, rfl, _, rfl, ?_⟩
      cases mine with
      | none =>
        refine iteF ?_
        refine ⟨_, rfl, .inl ⟨rfl, _, SqL.of gL⟩, _, rfl, l, _, _, rfl, rfl, gL, hsz, ?_⟩
        rw [show (V.non : V) = tN none from rfl, tvapp]
        refine fin _ kvs (tl ++ [none]) (sG.wr hlH) (by rw [upd_ne hdl]; exact gD) upd_same (by omega) (by rw [List.length_append, htl]; rfl) ((hC.app (by omega)).succ fun t z => ?_) (hK.iff fun x t => ?_)
        · rw [happ] at z; cases z
        · rw [Used.succ, Used.app (by omega), happ]
          exact ⟨.inl, fun z => z.elim id fun ⟨z1, _⟩ => by cases z1⟩
      | some t =>
        obtain ⟨nu1, nu2⟩ := gm t rfl
        refine iteT ?_
        refine ⟨_, rfl, _, rfl, p, _, _, _, rfl, rfl, SqT.of (sG _ _ N.e1), rfl, _, rfl, qa, _, _, _, rfl, rfl, SqT.of (sG _ _ N.e2), hix, tk, _, _, _, rfl, rfl, SqT.of (sG _ _ hta), rfl, _, rfl, rfl, fun t1 G1 u1 h1 => ⟨d, _, rfl, DPut.t (k := ky (es.getD k (0, 0)).1 t) (u1 _ _ gD) h1 (by rw [sizeLine_eq]; omega), ?_⟩⟩
        have l1 := length_putK kvs (ky (es.getD k (0, 0)).1 t) (V.bl true)
        have s1 : Same H (upd G1 d (.dT (putK kvs (ky (es.getD k (0, 0)).1 t) (V.bl true)))) := (Same.trans sG u1).wr hd
        refine ⟨_, rfl, _, rfl, p, _, _, _, rfl, rfl, SqT.of (s1 _ _ N.e1), rfl, _, rfl, qa, _, _, _, rfl, rfl, SqT.of (s1 _ _ N.e2), hix, tk, _, _, _, rfl, rfl, SqT.of (s1 _ _ hta), rfl, _, rfl, rfl, fun t2 G2 u2 h2 => ⟨d, _, rfl, DPut.t (k := ky (es.getD k (0, 0)).2 t) (u2 _ _ upd_same) h2 (by rw [sizeLine_eq]; omega), ?_⟩⟩
        have l2 := length_putK (putK kvs (ky (es.getD k (0, 0)).1 t) (V.bl true)) (ky (es.getD k (0, 0)).2 t) (V.bl true)
        have gL2 : (upd G2 d (.dT (putK (putK kvs (ky (es.getD k (0, 0)).1 t) (V.bl true)) (ky (es.getD k (0, 0)).2 t) (V.bl true)))) l = some (.lst (tv tl)) := by
          rw [upd_ne (Ne.symm hdl)]
          exact u2 _ _ (by rw [upd_ne (Ne.symm hdl)]; exact u1 _ _ gL)
        refine ⟨_, rfl, .inl ⟨rfl, _, SqL.of gL2⟩, _, rfl, l, _, _, rfl, rfl, gL2, hsz, ?_⟩
        rw [tvapp]
        refine fin _ _ (tl ++ [some t]) (((Same.trans s1 u2).wr hd).wr hlH) (by rw [upd_ne hdl, upd_same]) upd_same (by omega) (by rw [List.length_append, htl]; rfl) ((hC.app (by omega)).succ fun t' z x hx => ?_) (((hK.put _ _ _).put _ _ _).iff fun x t' => ?_)
        · rw [happ] at z
          cases z
          rw [Used.app (by omega)]
          rcases hx with rfl | rfl
          · exact nu1
          · exact nu2
        · rw [Used.succ, Used.app (by omega), happ]
          constructor
          · rintro ((z | ⟨rfl, rfl⟩) | ⟨rfl, rfl⟩)
            · exact .inl z
            · exact .inr ⟨rfl, .inl rfl⟩
            · exact .inr ⟨rfl, .inr rfl⟩
          · rintro (z | ⟨z, hx⟩)
            · exact .inl (.inl z)
            · cases z
              rcases hx with rfl | rfl
              · exact .inl (.inr ⟨rfl, rfl⟩)
              · exact .inr ⟨rfl, rfl⟩
    refine ⟨_, pss_cons (ps_set (i := 4) scTi.nd rfl (Or.inl rfl) pe_dnewT)
      (pss_cons (ps_set (i := 5) scTi.nd rfl (Or.inl rfl) (pe_lst pa_nil))
      (pss_cons (ps_for PassesOwn.never rfl (pi_range1 rfl T.range (pa_c (pe_callB call_len_seq rfl T.len bLen (pa_c (pe_ix ix_tup (pv 2) pe_int (fun _ _ => rfl)) pa_nil)) pa_nil)) (pg_name (i := 6) scTi.nd rfl (Or.inl rfl))
        (pss_cons (ps_set (i := 7) scTi.nd rfl (Or.inl rfl) (pe_fc FD hr (pa_c (pv 0) (pa_c (pe_op op_add (pv 1) (pv 6)) pa_nil))))
        (pss_cons (ps_set (i := 8) scTi.nd rfl (Or.inl rfl) pe_non)
        (pss_cons (ps_if (pt_cmpR op_gt (pe_op op_mod (pv 7) pe_int) pe_int (nomark _))
          (pss_one (ps_for PassesOwn.never rfl (pi_range1 rfl T.range (pa_c (pv 3) pa_nil)) (pg_name (i := 9) scTi.nd rfl (Or.inl rfl))
            (pss_cons (ps_set (i := 10) scTi.nd rfl (Or.inl rfl) (pe_op op_mod (pe_op op_add (pe_op op_fdiv (pv 7) pe_int) (pv 9)) (pv 3)))
            (pss_one (ps_if (PW.pt (pw_and (pt_cmpR op_isN (pv 8) pe_non (nomark _))
              (pw_and (pt_cmp (pc_dnotin hu (pe_tupS (pa_c (pe_ix ix_tup (pe_ix ix_tup (pe_ix ix_tup (pv 2) pe_int (fun _ _ => rfl)) (pv 6) (fun _ _ => rfl)) pe_int (fun _ _ => rfl)) (pa_c (pv 10) pa_nil))) (pv 4)))
              (pw_and1 (pt_cmp (pc_dnotin hu (pe_tupS (pa_c (pe_ix ix_tup (pe_ix ix_tup (pe_ix ix_tup (pv 2) pe_int (fun _ _ => rfl)) (pv 6) (fun _ _ => rfl)) pe_int (fun _ _ => rfl)) (pa_c (pv 10) pa_nil))) (pv 4)))))))
              (pss_one (ps_set (i := 8) scTi.nd rfl (Or.inl rfl) (pv 10))) pss_nil))))) pss_nil)
        hTT))))
      (pss_one (ps_ret (pe_callTy call_tuple_ofS rfl T.tuple bTuple (pa_c (pv 5) pa_nil)))))), ?_⟩
    have h200 := N.l200
    have hlen := N.len
    intro d hd
    refine ⟨Nat.zero_le _, fun l hl0 => ?_⟩
    have hdl : d ≠ l := fun z => by subst z; rw [upd_same] at hl0; cases hl0
    have hlH : H l = none := (same_new hd).none hl0
    have s0 : Same H (upd (upd H d (.dT [])) l (.lst [])) := (same_new hd).wr hlH
    refine ⟨_, rfl, p, _, _, _, rfl, rfl, SqT.of (s0 _ _ N.e1), rfl, qa, _, rfl, .inr (SqT.of (s0 _ _ N.e2)), _, rfl, by omega, by omega, for_range (lo := 0) (n := ((ts.length : Nat) : Int).toNat) (fun k σ H' => ∃ kvs tl v6 v7 v8 v9 v10, σ = [some (.ref a), some (.int 200), some (.ref p), some (.int (m : Int)), some (.ref d), some (.ref l), v6, v7, v8, v9, v10] ∧ Same H H' ∧ H' d = some (.dT kvs) ∧ H' l = some (.lst (tv tl)) ∧ kvs.length ≤ 2 * k ∧ tl.length = k ∧ CleanTo es tl k ∧ Keys kvs (Used es tl k))
      ⟨[], [], _, _, _, _, _, rfl, s0, (by rw [upd_ne hdl, upd_same]), upd_same, Nat.le_refl _, rfl, CleanTo.zero _ _, fun p t => ⟨(fun z => by cases z), fun z => absurd z Used.zero⟩⟩ (fun k σ H' hk ⟨kvs, tl, v6, v7, v8, v9, v10, e, sH, hD, hL, hkv, htl, hC, hK⟩ => ?_) (fun σ H' ⟨kvs, tl, v6, v7, v8, v9, v10, e, sH, hD, hL, hkv, htl, hC, hK⟩ => ?_)⟩
    · subst e
      have hke : k < es.length := by omega
      obtain ⟨tk, htk, hta⟩ := N.at' hke
      have hix : atI ts (0 + (k : Int)) = some (.ref tk) := by rw [Int.zero_add]; exact atI_nat htk
      refine ⟨_, rfl, _, rfl, _, rfl, _, _, rfl, rfl, a, ns, _, rfl, sH.seq hS, hl, by omega, by omega, ?_⟩
      generalize hdr : draw ns (200 + (0 + (k : Int))) = num at *
      refine ⟨_, rfl, _, _, rfl, rfl, (by show (0 : Int) < 5; decide), _, _, rfl, rfl, _, rfl, ?_⟩
      refine ite2 (fun _ => ?_) (fun _ => ?_)
      · refine ⟨_, rfl, (m : Int), rfl, by omega, by omega, for_range (lo := 0) (n := ((m : Nat) : Int).toNat) (fun st σ G => ∃ (mine : Option Nat) (w9 w10 : Option V), σ = [some (.ref a), some (.int 200), some (.ref p), some (.int (m : Int)), some (.ref d), some (.ref l), some (.int (0 + (k : Int))), some (.int num), some (tN mine), w9, w10] ∧ Same H G ∧ G d = some (.dT kvs) ∧ G l = some (.lst (tv tl)) ∧ ∀ t, mine = some t → ¬ Used es tl k (es.getD k (0, 0)).1 t ∧ ¬ Used es tl k (es.getD k (0, 0)).2 t)
          ⟨none, _, _, rfl, sH, hD, hL, fun t z => by cases z⟩ (fun st σ G hst ⟨mine, w9, w10, e, sG, gD, gL, gm⟩ => ?_) (fun σ G ⟨mine, w9, w10, e, sG, gD, gL, gm⟩ => ?_)⟩
        · subst e
          rw [Int.toNat_natCast] at hst
          obtain ⟨t, ht⟩ : ∃ t : Nat, (num / 5 + (0 + (st : Int))) % (m : Int) = (t : Int) := ⟨((num / 5 + (0 + (st : Int))) % (m : Int)).toNat, by have := mod_lo (n := num / 5 + (0 + (st : Int))) (p := (m : Int)) (by omega); omega⟩
          refine ⟨_, rfl, _, _, rfl, rfl, ⟨by decide, by decide⟩, _, rfl, _, _, rfl, rfl, _, rfl, _, _, rfl, rfl, (by show (0 : Int) < (m : Int); omega), ?_⟩
          dsimp only [gName]
          rw [ht]
          refine ⟨_, rfl, rfl, _, rfl, ?_⟩
          refine ite2 (fun hz => ?_) (fun hz => ?_)
          · refine ⟨_, rfl, p, _, _, _, rfl, rfl, SqT.of (sG _ _ N.e1), rfl, _, rfl, qa, _, _, _, rfl, rfl, SqT.of (sG _ _ N.e2), hix, tk, _, _, _, rfl, rfl, SqT.of (sG _ _ hta), rfl, _, rfl, rfl, fun t1 G1 u1 h1 => ⟨_, rfl, d, _, rfl, DGet.t (k := ky (es.getD k (0, 0)).1 t) (u1 _ _ gD) h1, _, rfl, ?_⟩⟩
            have sG1 := Same.trans sG u1
            refine ite2 (fun hz1 => ?_) (fun hz1 => ?_)
            · refine ⟨_, rfl, p, _, _, _, rfl, rfl, SqT.of (sG1 _ _ N.e1), rfl, _, rfl, qa, _, _, _, rfl, rfl, SqT.of (sG1 _ _ N.e2), hix, tk, _, _, _, rfl, rfl, SqT.of (sG1 _ _ hta), rfl, _, rfl, rfl, fun t2 G2 u2 h2 => ⟨_, rfl, d, _, rfl, DGet.t (k := ky (es.getD k (0, 0)).2 t) (u2 _ _ (u1 _ _ gD)) h2, _, rfl, ?_⟩⟩
              refine ite2 (fun hz2 => ?_) (fun hz2 => ?_)
              · refine ⟨_, rfl, some t, _, _, rfl, Same.trans sG1 u2, u2 _ _ (u1 _ _ gD), u2 _ _ (u1 _ _ gL), fun t' e' => ?_⟩
                cases e'
                refine ⟨fun z => ?_, fun z => ?_⟩
                · rw [(hK _ _).mpr z] at hz1; cases hz1
                · rw [(hK _ _).mpr z] at hz2; cases hz2
              · exact ⟨mine, _, _, rfl, Same.trans sG1 u2, u2 _ _ (u1 _ _ gD), u2 _ _ (u1 _ _ gL), gm⟩
            · exact iteF ⟨mine, _, _, rfl, sG1, u1 _ _ gD, u1 _ _ gL, gm⟩
          · exact iteF ⟨mine, _, _, rfl, sG, gD, gL, gm⟩
        · subst e
          exact rT _ k kvs tl mine G _ _ _ hke sG gD gL hkv htl hC hK gm hd hlH fun G' kvs' tl' h1 h2 h3 h4 h5 h6 h7 => ⟨kvs', tl', _, _, _, _, _, rfl, h1, h2, h3, h4, h5, h6, h7⟩
      · exact rT _ k kvs tl none H' _ _ _ hke sH hD hL hkv htl hC hK (fun t z => by cases z) hd hlH fun G' kvs' tl' h1 h2 h3 h4 h5 h6 h7 => ⟨kvs', tl', _, _, _, _, _, rfl, h1, h2, h3, h4, h5, h6, h7⟩
    · subst e
      have e : ((ts.length : Nat) : Int).toNat = es.length := by omega
      rw [e] at htl hC
      exact ⟨_, rfl, l, _, rfl, .inl hL, fun r H2 s2 hr2 => q H2 r tl (Same.trans sH s2) hr2 htl hC⟩
end
end My
set_option Elab.async false
set_option linter.all false
set_option maxRecDepth 100000
set_option maxHeartbeats 4000000
namespace My
open PySem L2
theorem bStr : bootBuiltins "str" = some (.type "str") := by decide +kernel
theorem tint_turn : ¬ (V.str "tint" = V.str "turn") := by decide +kernel
theorem bare_turn : ¬ (V.str "bare" = V.str "turn") := by decide +kernel
theorem bare_tint : ¬ (V.str "bare" = V.str "tint") := by decide +kernel
theorem tN_inj {a b : Option Nat} (h : tN a = tN b) : a = b := by
  cases a with
  | none => cases b with
    | none => rfl
    | some y => cases h
  | some x => cases b with
    | none => cases h
    | some y =>
      have := V.int.inj h
      rw [show x = y by omega]
theorem trn_ext {tl : List (Option Nat)} {u v : Nat} {S S' : List Nat} (h : ∀ k, k ∈ S ↔ k ∈ S') (hI : ∀ k ∈ S, InP tl u v k) : trn tl u v S = trn tl u v S' := by
  refine List.ext_getElem? fun k => ?_
  by_cases hk : k ∈ S
  · rw [trn_in hk (hI k hk), trn_in ((h k).mp hk) (hI k hk)]
  · rw [trn_out hk, trn_out fun z => hk ((h k).mpr z)]
def fl (kn : List Nat) (l : List Nat) : List Nat := l.filter fun x => decide (x ∉ kn)
theorem fl_in {kn l : List Nat} {i x : Nat} (hx : l[i]? = some x) (h : x ∉ kn) : fl kn (l.take (i + 1)) = fl kn (l.take i) ++ [x] := by
  unfold fl
  rw [List.take_add_one, hx]
  show List.filter _ (l.take i ++ [x]) = _
  rw [List.filter_append, List.filter_cons, if_pos (decide_eq_true h)]
  rfl
theorem fl_out {kn l : List Nat} {i x : Nat} (hx : l[i]? = some x) (h : ¬ x ∉ kn) : fl kn (l.take (i + 1)) = fl kn (l.take i) := by
  unfold fl
  rw [List.take_add_one, hx]
  show List.filter _ (l.take i ++ [x]) = _
  rw [List.filter_append, List.filter_cons, if_neg (fun z => h (of_decide_eq_true z))]
  simp
theorem fl_len (kn l : List Nat) (i : Nat) : (fl kn (l.take i)).length ≤ i := by
  unfold fl
  refine Nat.le_trans (List.length_filter_le _ _) ?_
  rw [List.length_take]
  omega
theorem fl_add {kn : List Nat} {a b : Nat} (h : a ≠ b) : kn ++ fl kn [a, b] = addN (addN kn a) b := by
  unfold fl addN
  by_cases h1 : a ∈ kn
  · rw [if_pos h1]
    by_cases h2 : b ∈ kn
    · rw [if_pos h2]; simp [h1, h2]
    · rw [if_neg h2]; simp [h1, h2]
  · rw [if_neg h1]
    by_cases h2 : b ∈ kn
    · rw [if_pos (List.mem_append_left _ h2)]; simp [h1, h2]
    · rw [if_neg (fun z => (List.mem_append.mp z).elim h2 fun z => h (List.mem_singleton.mp z).symm)]; simp [h1, h2]
theorem in_nlE (k : Nat) (l : List Nat) : (!inV (.int (k : Int)) (nl l)) = true ↔ k ∉ l := by
  rw [Bool.not_eq_true', Bool.eq_false_iff]
  exact not_congr (in_nl k l)
def lcE : Stmt → Expr
  | .While _ (.For _ _ (.If _ (_ :: .Assign _ e _ :: _) _ _ :: _) _ _ :: _) _ _ => e
  | _ => .Constant .none 0 ⟨0, 0, 0, 0⟩
section
variable {P : Program} {w : World} {K : PySem.W.Frag} {mg : Str → Option Value} {base : Heap}
abbrev sTd : Stmt := top 37
abbrev nTd : List Str := ["_law_net_here", "_law_tints_here", "_law_point", "_law_one", "_law_other", "_law_found", "_law_known", "_law_at", "_law_k"]
abbrev tdS : Scope := compScope (lcE (stOf 37 3))
def spTd : Sp := fun vs H Q _ => ∃ (p l : Addr) (n : Nat) (q : Addr) (ts : List V) (es : List (Nat × Nat)) (tl : List (Option Nat)) (pt u v : Nat), vs = [.ref p, .ref l, .int (pt : Int), .int (u : Int), .int (v : Int)] ∧ NetZ H p n q ts es ∧ H l = some (.lst (tv tl)) ∧ tl.length = es.length ∧ pt < n ∧ u ≠ v ∧
  ∀ H' t, Same H H' → H t = none → H' t = some (.lst (tv (trn tl u v (chS es tl u v pt)))) → Q (.ref t) H'
theorem ndTd : (["_law_there", "_law_known"] : List Str).Nodup := by decide +kernel
theorem scTd : FnScope nTd ["_law_net_here", "_law_tints_here", "_law_point", "_law_one", "_law_other"] (defScope sTd) := ⟨rfl, rfl, rfl, by decide +kernel, rfl, by decide +kernel, by decide +kernel⟩
theorem blkTd {f : Addr} {cdv : Value} {A : Around} {outer : List Env} {s : Shared} {H : Hp} {E : XK} :
    Blk (cxOf CX0 P w K mg base nTd "_law_turn" (defScope sTd) f cdv A outer s H E).nox tdS [("_law_known", s.heap.objs.size + 1)] ["_law_there", "_law_known"] [none, some 6] := by
  refine ⟨rfl, rfl, by decide +kernel, by decide +kernel, fun p hp => ?_, fun y hy e => ?_, ⟨rfl, rfl, rfl⟩, trivial⟩
  · rw [List.mem_singleton.mp hp]
    rfl
  · have hy' : y ∈ [((PySem.Str.ofString ".0" : Str), NameKind.local), (PySem.Str.ofString "_law_there", .local), (PySem.Str.ofString "_law_known", .free)] := hy
    simp only [List.mem_cons, List.not_mem_nil, or_false] at hy'
    rcases hy' with rfl | rfl | rfl <;> first | rfl | cases e
def TdI (H : Hp) (p l fo : Addr) (n : Nat) (es : List (Nat × Nat)) (tl : List (Option Nat)) (pt u v : Nat) (a : Nat) (met known : List Nat) (σ : St) (G : Hp) : Prop :=
  ∃ (kn : Addr) (v8 : Option V), σ = [some (.ref p), some (.ref l), some (.int (pt : Int)), some (.int (u : Int)), some (.int (v : Int)), some (.ref fo), some (.ref kn), some (.int (a : Int)), v8] ∧ Same H G ∧ G fo = some (.lst (tv (trn tl u v met))) ∧ G kn = some (.lst (nl known)) ∧ kn ≠ fo ∧ Cm es tl u v pt n a met known
theorem ok_td {f : Addr} {fd : FuncData} (F : Fun K "_law_turn" "_law_turn" sTd f fd) (T : Bi mg) : FnOk P w K mg base CX0 1 f fd ["_law_net_here", "_law_tints_here", "_law_point", "_law_one", "_law_other"] spTd := by
  refine F.ok scTd (fun vs H Q E h => ?_) (fun cdv A outer s H vs Q E hr h => ?_)
  · obtain ⟨p, l, n, q, ts, es, tl, pt, u, v, rfl, _⟩ := h
    rfl
  · obtain ⟨p, l, n, qa, ts, es, tl, pt, u, v, rfl, N, hL, htl, hpt, huv, q⟩ := h
    refine ⟨_, pss_cons (ps_set (i := 5) scTd.nd rfl (Or.inl rfl) (pe_callTy call_list_of rfl T.list bList (pa_c (pv 1) pa_nil)))
      (pss_cons (ps_set (i := 6) scTd.nd rfl (Or.inr rfl) (pe_lst (pa_c (pv 2) pa_nil)))
      (pss_cons (ps_set (i := 7) scTd.nd rfl (Or.inl rfl) pe_int)
      (pss_cons (ps_while PassesOwn.never (pt_cmpR op_lt (pv 7) (pe_callB call_len_seq rfl T.len bLen (pa_c (pv 6) pa_nil)) (nomark _))
        (pss_cons (ps_for PassesOwn.never rfl (pi_range1 rfl T.range (pa_c (pe_callB call_len_seq rfl T.len bLen (pa_c (pv 1) pa_nil)) pa_nil)) (pg_name (i := 8) scTd.nd rfl (Or.inl rfl))
          (pss_one (ps_if (PW.pt (pw_and (pt_cmpR op_in_seq (pe_ix ix_list (pv 6) (pv 7) (fun _ _ => rfl)) (pe_ix ix_tup (pe_ix ix_tup (pv 0) pe_int (fun _ _ => rfl)) (pv 8) (fun _ _ => rfl)) rfl)
            (pw_and (pt_cmpR op_in_seq (pe_ix ix_list (pv 1) (pv 8) (fun _ _ => rfl)) (pe_tupS (pa_c (pv 3) (pa_c (pv 4) pa_nil))) rfl)
              (pw_and1 (pt_cmpR op_eq (pe_ix ix_list (pv 5) (pv 8) (fun _ _ => rfl)) (pe_ix ix_list (pv 1) (pv 8) (fun _ _ => rfl)) (nomark _))))))
            (pss_cons (ps_asg (pe_op op_sub (pe_op op_add (pv 3) (pv 4)) (pe_ix ix_list (pv 1) (pv 8) (fun _ _ => rfl))) (pg_sub (pv 5) (pv 8) set_listN))
            (pss_one (ps_set (i := 6) scTd.nd rfl (Or.inr rfl) (pe_op op_cat (pv 6) (pe_lcT blkTd rfl (pe_ix ix_tup (pe_ix ix_tup (pv 0) pe_int (fun _ _ => rfl)) (pv 8) (fun _ _ => rfl)) (mono_ixT (mono_ixT (mono_var 0) (mono_c _)) (mono_var 8)) (fun C fp s H => pg_name (i := 0) ndTd rfl (Or.inl rfl))
              (fun C fp s H => pts_one (pt_cmpR (op_notInQ (K := K) rfl) (pv 0) (pv 1) rfl)) (fun C fp s H => pv 0)))))) pss_nil)))
        (pss_one (ps_set (i := 7) scTd.nd rfl (Or.inl rfl) (pe_op op_add (pv 7) pe_int)))))
      (pss_one (ps_ret (pv 5)))))), ?_⟩
    have h60 := N.n60
    have h200 := N.l200
    have hlen := N.len
    refine ⟨_, rfl, l, _, rfl, .inl (SqL.of hL), fun fo hfo => ?_⟩
    have s0 : Same H (upd H fo (.lst (tv tl))) := same_new hfo
    refine ⟨_, rfl, (by show 1 ≤ sizeLine; decide), fun kn0 hkn0 => ?_⟩
    have nk0 : kn0 ≠ fo := fun z => by rw [z, upd_same] at hkn0; cases hkn0
    have s01 : Same (upd H fo (.lst (tv tl))) (upd (upd H fo (.lst (tv tl))) kn0 (.lst [.int (pt : Int)])) := same_new hkn0
    refine ⟨fun m σ G => ∃ (a : Nat) (met known : List Nat), m = n - a ∧ a ≤ known.length ∧ TdI H p l fo n es tl pt u v a met known σ G,
      ⟨n, 0, [], [pt], rfl, Nat.zero_le _, kn0, _, rfl, Same.trans s0 s01, s01 _ _ upd_same, upd_same, nk0, Cm.start hpt⟩, fun m σ G ⟨a, met, known, em, hak, kn, v8, e, SG, gf, gk, nkf, C⟩ => ?_⟩
    subst e em
    have hkl : known.length ≤ n := len_lt C.kn C.klt
    refine ⟨_, rfl, _, rfl, kn, _, rfl, .inl (SqL.of gk), _, _, rfl, rfl, _, rfl, ?_⟩
    rw [nl_len]
    refine ite2 (fun hz => ?_) (fun hz => ?_)
    · have ha : a < known.length := by have := of_decide_eq_true hz; omega
      obtain ⟨x, hx⟩ : ∃ x, known[a]? = some x := ⟨_, List.getElem?_eq_getElem ha⟩
      refine ⟨fun σ' G => ∃ m', m' < n - a ∧ ∃ (a : Nat) (met known : List Nat), m' = n - a ∧ a ≤ known.length ∧ TdI H p l fo n es tl pt u v a met known σ' G, fun _ _ h => h, ?_⟩
      refine ⟨_, rfl, l, _, rfl, .inl (SqL.of (SG _ _ hL)), _, rfl, by omega, (by rw [tv_len]; omega), for_range (lo := 0) (n := (((tv tl).length : Nat) : Int).toNat) (fun k σ G => ∃ (met known : List Nat), TdI H p l fo n es tl pt u v a met known σ G ∧ known[a]? = some x ∧ ∀ j, j < k → InP tl u v j → At (es.getD j (0, 0)) x → j ∈ met)
        ⟨met, known, ⟨kn, _, rfl, SG, gf, gk, nkf, C⟩, hx, fun j hj => absurd hj (Nat.not_lt_zero _)⟩ (fun k σ G hk ⟨met, known, ⟨kn, v8, e, SG, gf, gk, nkf, C⟩, hx, hc⟩ => ?_) (fun σ G ⟨met, known, ⟨kn, v8, e, SG, gf, gk, nkf, C⟩, hx, hc⟩ => ?_)⟩
      · subst e
        rw [tv_len] at hk
        rw [Int.zero_add]
        have hke : k < es.length := by omega
        have hkt : k < tl.length := by omega
        obtain ⟨ak, hak', hta⟩ := N.at' hke
        have hok := N.ok _ (getD_mem hke)
        have ho := List.getElem?_eq_getElem hkt
        generalize tl[k] = o at ho
        have gl : atI (tv tl) (k : Int) = some (tN o) := atI_nat (tv_get ho)
        obtain ⟨o2, ho2⟩ : ∃ o2, (trn tl u v met)[k]? = some o2 := ⟨_, List.getElem?_eq_getElem (by rw [trn_len]; exact hkt)⟩
        have gf2 : atI (tv (trn tl u v met)) (k : Int) = some (tN o2) := atI_nat (tv_get ho2)
        have skip : ¬ (InP tl u v k ∧ At (es.getD k (0, 0)) x ∧ k ∉ met) → ∀ j, j < k + 1 → InP tl u v j → At (es.getD j (0, 0)) x → j ∈ met := fun hn j hj a1 a2 => by
          by_cases e : j = k
          · subst e
            exact Classical.byContradiction fun z => hn ⟨a1, a2, z⟩
          · exact hc j (by omega) a1 a2
        refine ⟨_, rfl, _, rfl, kn, _, _, _, rfl, rfl, SqL.of gk, atI_nat (nl_get hx), _, rfl, p, _, _, _, rfl, rfl, SqT.of (SG _ _ N.e1), rfl, _, rfl, qa, _, _, _, rfl, rfl, SqT.of (SG _ _ N.e2), atI_nat hak', ak, _, rfl, .inr (SqT.of (SG _ _ hta)), rfl, rfl, _, rfl, ?_⟩
        refine ite2 (fun h1 => ?_) (fun h1 => ?_)
        · have i2 := (in_at _ _).mp h1
          refine ⟨_, rfl, _, rfl, l, _, _, _, rfl, rfl, SqL.of (SG _ _ hL), gl, _, rfl, _, rfl, rfl, fun tp G1 u1 h1t => ⟨tp, _, rfl, .inr (SqT.of h1t), flat_tN _, flat_nl [u, v], _, rfl, ?_⟩⟩
          have SG1 := Same.trans SG u1
          refine ite2 (fun h2 => ?_) (fun h2 => ?_)
          · have i1 := (in_pair ho).mp h2
            refine ⟨_, rfl, _, rfl, fo, _, _, _, rfl, rfl, SqL.of (u1 _ _ gf), gf2, _, rfl, _, rfl, l, _, _, _, rfl, rfl, SqL.of (SG1 _ _ hL), gl, (by cases o2 <;> cases o <;> rfl), _, rfl, ?_⟩
            refine ite2 (fun h3 => ?_) (fun h3 => ?_)
            · have i3 : k ∉ met := fun z => by
                have e1 := trn_in z i1
                rw [ho2] at e1
                have e2 : o2 = o := tN_inj (of_decide_eq_true h3)
                have e3 : swp tl u v k = o := by rw [← Option.some.inj e1]; exact e2
                rcases i1 with i1 | i1
                · rw [swp_u i1] at e3
                  rw [ho, ← e3] at i1
                  exact huv (Option.some.inj (Option.some.inj i1)).symm
                · rw [swp_v huv i1] at e3
                  rw [ho, ← e3] at i1
                  exact huv (Option.some.inj (Option.some.inj i1))
              have hml : met.length ≤ es.length := len_lt C.mn fun j hj => (C.mr j hj).1
              have hkl2 : known.length ≤ n := len_lt C.kn C.klt
              obtain ⟨t, et, hsw⟩ : ∃ t : Nat, o = some t ∧ V.int ((u : Int) + (v : Int) - (t : Int)) = tN (swp tl u v k) := by
                rcases i1 with i1 | i1
                · refine ⟨u, by rw [ho] at i1; exact Option.some.inj i1, ?_⟩
                  rw [swp_u i1]
                  show V.int _ = V.int _
                  rw [show (u : Int) + (v : Int) - (u : Int) = (v : Int) by omega]
                · refine ⟨v, by rw [ho] at i1; exact Option.some.inj i1, ?_⟩
                  rw [swp_v huv i1]
                  show V.int _ = V.int _
                  rw [show (u : Int) + (v : Int) - (v : Int) = (u : Int) by omega]
              subst et
              refine ⟨_, rfl, _, rfl, _, _, rfl, rfl, _, rfl, _, rfl, l, _, _, _, rfl, rfl, SqL.of (SG1 _ _ hL), gl, _, _, rfl, rfl, _, rfl, _, rfl, fo, _, k, rfl, rfl, u1 _ _ gf, (by rw [tv_len, trn_len]; exact hkt), ?_⟩
              dsimp only
              rw [hsw, tv_set, ← trn_snoc]
              have SN : Same H (upd G1 fo (.lst (tv (trn tl u v (met ++ [k]))))) := SG1.wr hfo
              have gk1 : (upd G1 fo (.lst (tv (trn tl u v (met ++ [k]))))) kn = some (.lst (nl known)) := by rw [upd_ne nkf]; exact u1 _ _ gk
              have gm1 : (upd G1 fo (.lst (tv (trn tl u v (met ++ [k]))))) fo = some (.lst (tv (trn tl u v (met ++ [k])))) := upd_same
              generalize upd G1 fo (.lst (tv (trn tl u v (met ++ [k])))) = G2 at SN gk1 gm1 ⊢
              refine ⟨_, rfl, _, rfl, p, _, _, _, rfl, rfl, SqT.of (SN _ _ N.e1), rfl, _, rfl, qa, _, _, _, rfl, rfl, SqT.of (SN _ _ N.e2), atI_nat hak', ak, [.int ((es.getD k (0, 0)).1 : Int), .int ((es.getD k (0, 0)).2 : Int)], rfl, SqT.of (SN _ _ hta), (by show 2 ≤ 100000; decide),
                fun i ys σ G3 => Same G2 G3 ∧ ys = nl (fl known ([(es.getD k (0, 0)).1, (es.getD k (0, 0)).2].take i)) ∧ ∃ v0, σ = [v0, some (.ref kn)], ⟨Same.refl _, rfl, none, rfl⟩, fun i ys σ G3 hi ⟨s3, e, _⟩ => ⟨SqT.of (s3 _ _ (SN _ _ hta)), by subst e; rw [nl_len]; exact fl_len _ _ _⟩, fun i y ys σ G3 hy ⟨s3, e1, v0, e⟩ => ?_, fun ys σ G3 ⟨s3, e1, _⟩ cl G4 s4 hcl => ?_⟩
              · subst e1 e
                obtain ⟨z, hz', rfl⟩ : ∃ z : Nat, [(es.getD k (0, 0)).1, (es.getD k (0, 0)).2][i]? = some z ∧ y = V.int (z : Int) := nl_inv (l := [(es.getD k (0, 0)).1, (es.getD k (0, 0)).2]) hy
                refine ⟨_, rfl, _, rfl, kn, _, rfl, .inl (SqL.of (s3 _ _ gk1)), rfl, flat_nl _, _, rfl, ?_⟩
                refine ite2 (fun h5 => ?_) (fun h5 => ?_)
                · exact ⟨_, rfl, s3, by rw [fl_in hz' ((in_nlE z known).mp h5), ← nl_app], _, rfl⟩
                · exact ⟨s3, by rw [fl_out hz' fun y => h5 ((in_nlE z known).mpr y)], _, rfl⟩
              · subst e1
                have s24 := Same.trans s3 s4
                have hfl := fl_len known [(es.getD k (0, 0)).1, (es.getD k (0, 0)).2] 2
                refine ⟨kn, cl, _, _, rfl, rfl, s24 _ _ gk1, hcl, (by rw [nl_len, nl_len, sizeLine_eq]; show known.length + (fl known ([(es.getD k (0, 0)).1, (es.getD k (0, 0)).2].take 2)).length ≤ _; omega), fun kn' hkn0' => ?_⟩
                have ek : nl known ++ nl (fl known ([(es.getD k (0, 0)).1, (es.getD k (0, 0)).2].take ([V.int ((es.getD k (0, 0)).1 : Int), V.int ((es.getD k (0, 0)).2 : Int)]).length)) = nl (addN (addN known (es.getD k (0, 0)).1) (es.getD k (0, 0)).2) := by
                  rw [← fl_add hok.2.2]
                  unfold nl
                  rw [List.map_append]
                  rfl
                rw [ek]
                have hne : kn' ≠ fo := fun z => by rw [z, s24 _ _ gm1] at hkn0'; cases hkn0'
                have s5 := same_new (o := .lst (nl (addN (addN known (es.getD k (0, 0)).1) (es.getD k (0, 0)).2))) hkn0'
                have s25 := Same.trans s24 s5
                refine ⟨met ++ [k], _, ⟨kn', _, rfl, Same.trans SN s25, s25 _ _ gm1, upd_same, hne, C.add hx hke i1 i2 i3 hok.1 hok.2.1⟩, addN_get (addN_get hx), fun j hj a1 a2 => ?_⟩
                by_cases e : j = k
                · subst e
                  exact List.mem_append_right _ (List.mem_singleton.mpr rfl)
                · exact List.mem_append_left _ (hc j (by omega) a1 a2)
            · refine ⟨met, known, ⟨kn, _, rfl, SG1, u1 _ _ gf, u1 _ _ gk, nkf, C⟩, hx, skip fun z => h3 ?_⟩
              have e1 := trn_out (tl := tl) (u := u) (v := v) z.2.2
              rw [ho, ho2] at e1
              exact decide_eq_true (by rw [Option.some.inj e1])
          · refine iteF ⟨met, known, ⟨kn, _, rfl, SG1, u1 _ _ gf, u1 _ _ gk, nkf, C⟩, hx, skip fun z => h2 ((in_pair ho).mpr z.1)⟩
        · refine iteF ⟨met, known, ⟨kn, _, rfl, SG, gf, gk, nkf, C⟩, hx, skip fun z => h1 ((in_at _ _).mpr z.2.1)⟩
      · subst e
        have hal2 : a < known.length := (List.getElem?_eq_some_iff.mp hx).1
        have hkl2 : known.length ≤ n := len_lt C.kn C.klt
        rw [tv_len] at hc
        exact ⟨_, rfl, _, _, rfl, rfl, n - (a + 1), by omega, a + 1, met, known, rfl, by omega, kn, _, rfl, SG, gf, gk, nkf, C.next hx fun k hk a1 a2 => hc k (by omega) a1 a2⟩
    · have ha : known.length ≤ a := Nat.le_of_not_lt fun z => hz (decide_eq_true (Int.ofNat_lt.mpr z))
      refine ⟨_, rfl, q G fo SG hfo ?_⟩
      have hm := C.done ha
      rw [gf, trn_ext (S' := chS es tl u v pt) (fun k => by rw [hm k, chS_mem]) fun k hk => ((hm k).mp hk).2.1]
end
end My
set_option Elab.async false
set_option linter.all false
set_option maxRecDepth 100000
set_option maxHeartbeats 4000000
namespace My
open PySem L2
theorem Wk.inv {es : List (Nat × Nat)} {n m : Nat} {s : Stp} {sl : List Stp} {tl t2 : List (Option Nat)} (h : Wk es n m (s :: sl) tl t2) : ∃ t1, StOk n es.length m s ∧ Did es tl s t1 ∧ CleanTo es t1 es.length ∧ Wk es n m sl t1 t2 := by
  cases h with
  | cons a b c d => exact ⟨_, a, b, c, d⟩
theorem Wk.inv0 {es : List (Nat × Nat)} {n m : Nat} {tl t2 : List (Option Nat)} (h : Wk es n m [] tl t2) : t2 = tl := by
  cases h; rfl
def chg (tl tE : List (Option Nat)) (k i : Nat) : Nat := ((List.range i).filter fun j => decide (j ≠ k ∧ tl[j]? ≠ tE[j]?)).length
theorem chg_in {tl tE : List (Option Nat)} {k i : Nat} (h : i ≠ k ∧ tl[i]? ≠ tE[i]?) : chg tl tE k (i + 1) = chg tl tE k i + 1 := by
  unfold chg
  rw [List.range_succ, List.filter_append, List.filter_cons, if_pos (decide_eq_true h), List.length_append]
  rfl
theorem chg_out {tl tE : List (Option Nat)} {k i : Nat} (h : ¬ (i ≠ k ∧ tl[i]? ≠ tE[i]?)) : chg tl tE k (i + 1) = chg tl tE k i := by
  unfold chg
  rw [List.range_succ, List.filter_append, List.filter_cons, if_neg (fun z => h (of_decide_eq_true z))]
  simp
theorem chg_le {tl tE : List (Option Nat)} {k i : Nat} {l : List Nat} (h : ∀ j, j ≠ k → tl[j]? ≠ tE[j]? → j ∈ l) : chg tl tE k i ≤ l.length := by
  unfold chg
  refine sub_len (List.nodup_range.filter _) fun j hj => ?_
  obtain ⟨h1, h2⟩ := of_decide_eq_true (List.mem_filter.mp hj).2
  exact h j h1 h2
section
variable {P : Program} {w : World} {K : PySem.W.Frag} {mg : Str → Option Value} {base : Heap}
abbrev sSd : Stmt := top 38
abbrev nSd : List Str := ["_law_net_here", "_law_tints_here", "_law_step_here", "_law_many", "_law_found"]
def spSd : Sp := fun vs H Q _ => ∃ (p l u : Addr) (n : Nat) (q : Addr) (ts : List V) (es : List (Nat × Nat)) (tl : List (Option Nat)) (st : Stp) (m : Nat), vs = [.ref p, .ref l, .ref u, .int (m : Int)] ∧ NetZ H p n q ts es ∧ H l = some (.lst (tv tl)) ∧ tl.length = es.length ∧ H u = some (.tup (stV st)) ∧ StOk n es.length m st ∧
  ∀ H' r' tl', Same H H' → H' r' = some (.lst (tv tl')) → Did es tl st tl' → Q (.ref r') H'
theorem scSd : FnScope nSd ["_law_net_here", "_law_tints_here", "_law_step_here", "_law_many"] (defScope sSd) := ⟨rfl, rfl, rfl, by decide +kernel, rfl, by decide +kernel, by decide +kernel⟩
theorem ok_sd {f : Addr} {fd : FuncData} (F : Fun K "_law_step" "_law_step" sSd f fd) (T : Bi mg) (hst : mg "str" = none) (FU : FnE P w K mg base "_law_below" ["_law_thing", "_law_most_here"] 1 spBel) (FT : FnE P w K mg base "_law_turn" ["_law_net_here", "_law_tints_here", "_law_point", "_law_one", "_law_other"] 1 spTd) :
    FnOk P w K mg base CX0 2 f fd ["_law_net_here", "_law_tints_here", "_law_step_here", "_law_many"] spSd := by
  refine F.ok scSd (fun vs H Q E h => ?_) (fun cdv A outer s H vs Q E hr h => ?_)
  · obtain ⟨p, l, u, n, q, ts, es, tl, st, m, rfl, _⟩ := h
    rfl
  · obtain ⟨p, r, u, n, qa, ts, es, tl, st, m, rfl, N, hR, htl, hU, hok, q⟩ := h
    refine ⟨_, pss_cons (ps_if (PW.pt (pw_or (pt_not (pt_val (pe_callB call_isinst rfl T.isi bIsi (pa_c (pv 2) (pa_c (pe_bltn (v := .ty "tuple") rfl T.tuple bTuple rfl) pa_nil)))))
        (pw_or (pt_cmpR op_lt (pe_callB call_len_seq rfl T.len bLen (pa_c (pv 2) pa_nil)) pe_int (nomark _))
        (pw_or1 (pt_not (pt_val (pe_callB call_isinst rfl T.isi bIsi (pa_c (pe_ix ix_tup (pv 2) pe_int (fun _ _ => rfl)) (pa_c (pe_bltn (v := .ty "str") rfl hst bStr rfl) pa_nil))))))))) (pss_one (ps_ret pe_non)) pss_nil)
      (pss_cons (ps_if (PW.pt (pw_and (pt_cmpR op_eq (pe_ix ix_tup (pv 2) pe_int (fun _ _ => rfl)) pe_str (nomark _)) (pw_and1 (pt_cmpR op_eq (pe_callB call_len_seq rfl T.len bLen (pa_c (pv 2) pa_nil)) pe_int (nomark _)))))
        (pss_cons (ps_if (PW.pt (pw_or (pt_not (pt_val (pe_fc FU hr (pa_c (pe_ix ix_tup (pv 2) pe_int (fun _ _ => rfl)) (pa_c (pe_ix ix_tup (pv 0) pe_int (fun _ _ => rfl)) pa_nil)))))
            (pw_or (pt_not (pt_val (pe_fc FU hr (pa_c (pe_ix ix_tup (pv 2) pe_int (fun _ _ => rfl)) (pa_c (pv 3) pa_nil)))))
            (pw_or1 (pt_not (pt_val (pe_fc FU hr (pa_c (pe_ix ix_tup (pv 2) pe_int (fun _ _ => rfl)) (pa_c (pv 3) pa_nil))))))))) (pss_one (ps_ret pe_non)) pss_nil)
        (pss_cons (ps_if (pt_cmpR op_eq (pe_ix ix_tup (pv 2) pe_int (fun _ _ => rfl)) (pe_ix ix_tup (pv 2) pe_int (fun _ _ => rfl)) (nomark _)) (pss_one (ps_ret pe_non)) pss_nil)
        (pss_one (ps_ret (pe_fc FT hr (pa_c (pv 0) (pa_c (pv 1) (pa_c (pe_ix ix_tup (pv 2) pe_int (fun _ _ => rfl)) (pa_c (pe_ix ix_tup (pv 2) pe_int (fun _ _ => rfl)) (pa_c (pe_ix ix_tup (pv 2) pe_int (fun _ _ => rfl)) pa_nil)))))))))) pss_nil)
      (pss_cons (ps_if (pt_not (pt_val (pe_fc FU hr (pa_c (pe_ix ix_tup (pv 2) pe_int (fun _ _ => rfl)) (pa_c (pe_callB call_len_seq rfl T.len bLen (pa_c (pv 1) pa_nil)) pa_nil))))) (pss_one (ps_ret pe_non)) pss_nil)
      (pss_cons (ps_set (i := 4) scSd.nd rfl (Or.inl rfl) (pe_callTy call_list_of rfl T.list bList (pa_c (pv 1) pa_nil)))
      (pss_cons (ps_if (PW.pt (pw_and (pt_cmpR op_eq (pe_ix ix_tup (pv 2) pe_int (fun _ _ => rfl)) pe_str (nomark _)) (pw_and (pt_cmpR op_eq (pe_callB call_len_seq rfl T.len bLen (pa_c (pv 2) pa_nil)) pe_int (nomark _))
          (pw_and1 (pt_val (pe_fc FU hr (pa_c (pe_ix ix_tup (pv 2) pe_int (fun _ _ => rfl)) (pa_c (pv 3) pa_nil))))))))
          (pss_cons (ps_asg (pe_ix ix_tup (pv 2) pe_int (fun _ _ => rfl)) (pg_sub (pv 4) (pe_ix ix_tup (pv 2) pe_int (fun _ _ => rfl)) set_listN)) (pss_one (ps_ret (pv 4)))) pss_nil)
      (pss_cons (ps_if (PW.pt (pw_and (pt_cmpR op_eq (pe_ix ix_tup (pv 2) pe_int (fun _ _ => rfl)) pe_str (nomark _)) (pw_and1 (pt_cmpR op_eq (pe_callB call_len_seq rfl T.len bLen (pa_c (pv 2) pa_nil)) pe_int (nomark _)))))
          (pss_cons (ps_asg pe_non (pg_sub (pv 4) (pe_ix ix_tup (pv 2) pe_int (fun _ _ => rfl)) set_listN)) (pss_one (ps_ret (pv 4)))) pss_nil)
      pss_never))))), ?_⟩
    have hlen := N.len
    have hln2 : ¬ ((((stV st).length : Nat) : Int) < 2) := by cases st <;> simp [stV]
    have h0 : ∃ w0, (stV st)[0]? = some (.str w0) := by cases st <;> exact ⟨_, rfl⟩
    obtain ⟨w0, hw0⟩ := h0
    refine ⟨_, rfl, _, _, _, _, rfl, .tup hU, kit K "tuple" "tuple" true (by decide +kernel), _, rfl, iteF ?_⟩
    refine ⟨_, rfl, u, _, rfl, .inr (SqT.of hU), _, _, rfl, rfl, _, rfl, ?_⟩
    refine ite2 (fun z => absurd (of_decide_eq_true z) hln2) (fun _ => ?_)
    refine ⟨_, rfl, u, _, _, _, rfl, rfl, SqT.of hU, atI_nat (j := 0) hw0, _, _, _, _, rfl, .str _, kit K "str" "str" true (by decide +kernel), _, rfl, iteF ?_⟩
    cases st with
    | turn pt a b =>
      obtain ⟨o1, o2, o3, o4⟩ := hok
      refine ⟨_, rfl, u, _, _, _, rfl, rfl, SqT.of hU, rfl, rfl, _, rfl, ?_⟩
      refine ite2 (fun _ => ?_) (fun z => absurd (decide_eq_true rfl) z)
      refine ⟨_, rfl, u, _, rfl, .inr (SqT.of hU), rfl, _, rfl, ?_⟩
      refine ite2 (fun _ => ?_) (fun z => absurd (decide_eq_true rfl) z)
      refine ⟨_, rfl, u, _, _, _, rfl, rfl, SqT.of hU, rfl, _, rfl, p, _, _, _, rfl, rfl, SqT.of N.e1, rfl, (pt : Int), _, rfl, by omega, by omega, _, rfl, iteF ?_⟩
      refine ⟨_, rfl, u, _, _, _, rfl, rfl, SqT.of hU, rfl, _, rfl, (a : Int), _, rfl, by omega, by omega, _, rfl, iteF ?_⟩
      refine ⟨_, rfl, u, _, _, _, rfl, rfl, SqT.of hU, rfl, _, rfl, (b : Int), _, rfl, by omega, by omega, _, rfl, iteF ?_⟩
      refine ⟨_, rfl, u, _, _, _, rfl, rfl, SqT.of hU, rfl, _, rfl, u, _, _, _, rfl, rfl, SqT.of hU, rfl, rfl, _, rfl, ?_⟩
      refine ite2 (fun z => absurd (V.int.inj (of_decide_eq_true z)) (by omega)) (fun _ => ?_)
      refine ⟨_, rfl, _, rfl, _, rfl, u, _, _, _, rfl, rfl, SqT.of hU, rfl, _, rfl, u, _, _, _, rfl, rfl, SqT.of hU, rfl, _, rfl, u, _, _, _, rfl, rfl, SqT.of hU, rfl, p, r, n, qa, ts, es, tl, pt, a, b, rfl, N, hR, htl, o1, o4, fun H' t s' _ ht => ?_⟩
      exact q H' t _ s' ht ⟨_, chS_rise _ _ _ _ _, fun k => chS_mem, rfl⟩
    | tint k t =>
      obtain ⟨hk, htm⟩ := hok
      refine ⟨_, rfl, u, _, _, _, rfl, rfl, SqT.of hU, rfl, rfl, _, rfl, ?_⟩
      refine ite2 (fun z => absurd (of_decide_eq_true z) tint_turn) (fun _ => iteF ?_)
      refine ⟨_, rfl, u, _, _, _, rfl, rfl, SqT.of hU, rfl, _, rfl, r, _, rfl, .inl (SqL.of hR), (k : Int), _, rfl, by omega, (by rw [tv_len]; omega), _, rfl, iteF ?_⟩
      refine ⟨_, rfl, r, _, rfl, .inl (SqL.of hR), fun l hl => ?_⟩
      have s1 : Same H (upd H l (.lst (tv tl))) := same_new hl
      have gU := s1 _ _ hU
      refine ⟨_, rfl, u, _, _, _, rfl, rfl, SqT.of gU, rfl, rfl, _, rfl, ?_⟩
      refine ite2 (fun _ => ?_) (fun z => absurd (decide_eq_true rfl) z)
      refine ⟨_, rfl, u, _, rfl, .inr (SqT.of gU), rfl, _, rfl, ?_⟩
      refine ite2 (fun _ => ?_) (fun z => absurd (decide_eq_true rfl) z)
      refine ⟨_, rfl, u, _, _, _, rfl, rfl, SqT.of gU, rfl, _, rfl, (t : Int), _, rfl, by omega, by omega, _, rfl, iteT ?_⟩
      refine ⟨_, rfl, u, _, _, _, rfl, rfl, SqT.of gU, rfl, _, rfl, _, rfl, u, _, _, _, rfl, rfl, SqT.of gU, rfl, l, _, k, rfl, rfl, upd_same, by rw [tv_len]; omega, ?_⟩
      rw [show (V.int (t : Int)) = tN (some t) from rfl, tv_set]
      exact ⟨_, rfl, q _ l _ (s1.wr hl) upd_same rfl⟩
    | bare k =>
      have hk : k < es.length := hok
      refine ⟨_, rfl, u, _, _, _, rfl, rfl, SqT.of hU, rfl, rfl, _, rfl, ?_⟩
      refine ite2 (fun z => absurd (of_decide_eq_true z) bare_turn) (fun _ => iteF ?_)
      refine ⟨_, rfl, u, _, _, _, rfl, rfl, SqT.of hU, rfl, _, rfl, r, _, rfl, .inl (SqL.of hR), (k : Int), _, rfl, by omega, (by rw [tv_len]; omega), _, rfl, iteF ?_⟩
      refine ⟨_, rfl, r, _, rfl, .inl (SqL.of hR), fun l hl => ?_⟩
      have s1 : Same H (upd H l (.lst (tv tl))) := same_new hl
      have gU := s1 _ _ hU
      refine ⟨_, rfl, u, _, _, _, rfl, rfl, SqT.of gU, rfl, rfl, _, rfl, ?_⟩
      refine ite2 (fun z => absurd (of_decide_eq_true z) bare_tint) (fun _ => iteF ?_)
      refine ⟨_, rfl, u, _, _, _, rfl, rfl, SqT.of gU, rfl, rfl, _, rfl, ?_⟩
      refine ite2 (fun _ => ?_) (fun z => absurd (decide_eq_true rfl) z)
      refine ⟨_, rfl, u, _, rfl, .inr (SqT.of gU), rfl, _, rfl, ?_⟩
      refine ite2 (fun _ => ?_) (fun z => absurd (decide_eq_true rfl) z)
      refine ⟨_, rfl, _, rfl, u, _, _, _, rfl, rfl, SqT.of gU, rfl, l, _, k, rfl, rfl, upd_same, by rw [tv_len]; omega, ?_⟩
      rw [show (V.non : V) = tN none from rfl, tv_set]
      exact ⟨_, rfl, q _ l _ (s1.wr hl) upd_same rfl⟩
abbrev sBe : Stmt := top 39
abbrev nBe : List Str := ["_law_net_here", "_law_tints_here", "_law_steps", "_law_many", "_law_found", "_law_step_here"]
def spBe : Sp := fun vs H Q _ => ∃ (p r l : Addr) (n : Nat) (q : Addr) (ts : List V) (es : List (Nat × Nat)) (tl tE : List (Option Nat)) (sl : List Stp) (m : Nat), vs = [.ref p, .ref r, .ref l, .int (m : Int)] ∧ NetZ H p n q ts es ∧ H r = some (.tup (tv tl)) ∧ tl.length = es.length ∧ ShSt H l sl ∧ sl.length ≤ 10 + 4 * n ∧ Wk es n m sl tl tE ∧
  ∀ H' r', Same H H' → H' r' = some (.tup (tv tE)) → Q (.ref r') H'
theorem scBe : FnScope nBe ["_law_net_here", "_law_tints_here", "_law_steps", "_law_many"] (defScope sBe) := ⟨rfl, rfl, rfl, by decide +kernel, rfl, by decide +kernel, by decide +kernel⟩
theorem ok_be {f : Addr} {fd : FuncData} (F : Fun K "_law_behind" "_law_behind" sBe f fd) (T : Bi mg) (FS : FnE P w K mg base "_law_step" ["_law_net_here", "_law_tints_here", "_law_step_here", "_law_many"] 2 spSd) (FI : FnE P w K mg base "_law_is_clean" ["_law_net_here", "_law_tints_here"] 2 spIc) :
    FnOk P w K mg base CX0 3 f fd ["_law_net_here", "_law_tints_here", "_law_steps", "_law_many"] spBe := by
  refine F.ok scBe (fun vs H Q E h => ?_) (fun cdv A outer s H vs Q E hr h => ?_)
  · obtain ⟨p, r, l, n, q, ts, es, tl, tE, sl, m, rfl, _⟩ := h
    rfl
  · obtain ⟨p, r, l, n, qa, ts, es, tl, tE, sl, m, rfl, N, hR, htl, ⟨tr, hL, hsl, hU⟩, hlg, hW, q⟩ := h
    refine ⟨_, pss_cons (ps_if (PW.pt (pw_or (pt_not (pt_val (pe_callB call_isinst rfl T.isi bIsi (pa_c (pv 2) (pa_c (pe_bltn (v := .ty "list") rfl T.list bList rfl) pa_nil)))))
        (pw_or1 (pt_cmpR op_gt (pe_callB call_len_seq rfl T.len bLen (pa_c (pv 2) pa_nil)) (pe_op op_add pe_int (pe_op op_mul pe_int (pe_ix ix_tup (pv 0) pe_int (fun _ _ => rfl)))) (nomark _))))) (pss_one (ps_ret pe_non)) pss_nil)
      (pss_cons (ps_set (i := 4) scBe.nd rfl (Or.inl rfl) (pe_callTy call_list_of rfl T.list bList (pa_c (pv 1) pa_nil)))
      (pss_cons (ps_for PassesOwn.never rfl (pi_list (pv 2)) (pg_name (i := 5) scBe.nd rfl (Or.inl rfl))
        (pss_cons (ps_set (i := 4) scBe.nd rfl (Or.inl rfl) (pe_fc FS hr (pa_c (pv 0) (pa_c (pv 4) (pa_c (pv 5) (pa_c (pv 3) pa_nil))))))
        (pss_one (ps_if (PW.pt (pw_or (pt_cmpR op_isN (pv 4) pe_non (nomark _)) (pw_or1 (pt_not (pt_val (pe_fc FI hr (pa_c (pv 0) (pa_c (pv 4) pa_nil)))))))) (pss_one (ps_ret pe_non)) pss_nil))))
      (pss_one (ps_ret (pe_callTy call_tuple_ofS rfl T.tuple bTuple (pa_c (pv 4) pa_nil)))))), ?_⟩
    have hlt : tr.length = sl.length := by rw [← hsl, List.length_map]
    refine ⟨_, rfl, _, _, _, _, rfl, .lst hL, kit K "list" "list" true (by decide +kernel), _, rfl, iteF ?_⟩
    refine ⟨_, rfl, l, _, rfl, .inl (SqL.of hL), _, rfl, p, _, _, _, rfl, rfl, SqT.of N.e1, rfl, _, _, rfl, rfl, .inl ⟨by decide, by decide⟩, _, _, rfl, rfl, _, _, rfl, rfl, _, rfl, ?_⟩
    refine ite2 (fun z => absurd (of_decide_eq_true z) (by rw [List.length_map]; omega)) (fun _ => ?_)
    refine ⟨_, rfl, r, _, rfl, .inr (SqT.of hR), fun fo hfo => ?_⟩
    have s0 : Same H (upd H fo (.lst (tv tl))) := same_new hfo
    refine ⟨_, rfl, l, rfl, ⟨_, SqL.of (s0 _ _ hL)⟩, for_list (K := K) (a := l) (xs := tr.map fun x => V.ref x.1) (fun i σ H' => Same H H' ∧ ∃ rr tl' v5, σ = [some (.ref p), some (.ref r), some (.ref l), some (.int (m : Int)), some (.ref rr), v5] ∧ H' rr = some (.lst (tv tl')) ∧ tl'.length = es.length ∧ Wk es n m (sl.drop i) tl' tE)
      ⟨s0, fo, tl, _, rfl, upd_same, htl, hW⟩ (fun i σ H' _ z => SqL.of (z.1 _ _ hL)) (fun i x σ H' hx ⟨sH, rr, tl', v5, e, hrr, hl', hw'⟩ => ?_) (fun σ H' ⟨sH, rr, tl', v5, e, hrr, hl', hw'⟩ => ?_)⟩
    · subst e
      rw [List.getElem?_map] at hx
      cases ht : tr[i]? with
      | none => rw [ht] at hx; cases hx
      | some y =>
        rw [ht] at hx
        cases hx
        have hs : sl[i]? = some y.2 := by rw [← hsl, List.getElem?_map, ht]; rfl
        have hil : i < sl.length := (List.getElem?_eq_some_iff.mp hs).1
        have hdr : sl.drop i = y.2 :: sl.drop (i + 1) := by
          rw [List.drop_eq_getElem_cons hil]
          rw [List.getElem?_eq_getElem hil] at hs
          rw [Option.some.inj hs]
        rw [hdr] at hw'
        obtain ⟨t1, w1, w2, w3, w4⟩ := hw'.inv
        refine ⟨_, rfl, _, rfl, _, rfl, _, rfl, p, rr, y.1, n, qa, ts, es, tl', y.2, m, rfl, N.same sH, hrr, hl', sH _ _ (hU y (List.mem_of_getElem? ht)), w1, fun H2 r2 t2 s2 h2 hd => ?_⟩
        have e2 := hd.uniq w2
        subst e2
        have sH2 := Same.trans sH s2
        have hl2 : t2.length = es.length := by rw [w2.len]; exact hl'
        refine ⟨_, rfl, rfl, _, rfl, ?_⟩
        refine ite2 (fun z => absurd (of_decide_eq_true z) (fun e => nomatch e)) (fun _ => ?_)
        refine ⟨_, rfl, _, rfl, p, r2, n, qa, ts, es, _, rfl, N.same sH2, h2, hl2, w3, fun H3 s3 => ⟨_, rfl, iteF ?_⟩⟩
        exact ⟨Same.trans sH2 s3, r2, t2, _, rfl, s3 _ _ h2, hl2, w4⟩
    · subst e
      rw [List.length_map, hlt, List.drop_length] at hw'
      rw [hw'.inv0] at q
      exact ⟨_, rfl, rr, _, rfl, .inl hrr, fun r' H3 s3 h3 => q H3 r' (Same.trans sH s3) h3⟩
abbrev sGo : Stmt := top 40
abbrev nGo : List Str := ["_law_net_here", "_law_tints_here", "_law_tie", "_law_found", "_law_moved", "_law_k"]
def spGo : Sp := fun vs H Q _ => ∃ (p r r1 : Addr) (n : Nat) (q : Addr) (ts : List V) (es : List (Nat × Nat)) (tl tE : List (Option Nat)) (k : Nat), vs = [.ref p, .ref r, .int (k : Int), .ref r1] ∧ NetZ H p n q ts es ∧ H r = some (.tup (tv tl)) ∧ tl.length = es.length ∧ H r1 = some (.tup (tv tE)) ∧ tE.length = es.length ∧
  (∃ t, tE[k]? = some (some t)) ∧ (∀ j, j ≠ k → (tE[j]? = some none ↔ tl[j]? = some none)) ∧ (∃ lc : List Nat, lc.length ≤ 2 * n ∧ ∀ j, j ≠ k → tl[j]? ≠ tE[j]? → j ∈ lc) ∧ Q (.bl true) H
theorem scGo : FnScope nGo ["_law_net_here", "_law_tints_here", "_law_tie", "_law_found"] (defScope sGo) := ⟨rfl, rfl, rfl, by decide +kernel, rfl, by decide +kernel, by decide +kernel⟩
theorem ok_go {f : Addr} {fd : FuncData} (F : Fun K "_law_good" "_law_good" sGo f fd) (T : Bi mg) : FnOk P w K mg base CX0 1 f fd ["_law_net_here", "_law_tints_here", "_law_tie", "_law_found"] spGo := by
  refine F.ok scGo (fun vs H Q E h => ?_) (fun cdv A outer s H vs Q E hr h => ?_)
  · obtain ⟨p, r, r1, n, q, ts, es, tl, tE, k, rfl, _⟩ := h
    rfl
  · obtain ⟨p, r, r1, n, qa, ts, es, tl, tE, k, rfl, N, hR, htl, h1, htE, ⟨t0, hset⟩, hbare, ⟨lc, hlc, hch⟩, q⟩ := h
    refine ⟨_, pss_cons (ps_if (PW.pt (pw_or (pt_cmpR op_isN (pv 3) pe_non (nomark _)) (pw_or1 (pt_cmpR op_isN (pe_ix ix_tup (pv 3) (pv 2) (fun _ _ => rfl)) pe_non (nomark _))))) (pss_one (ps_ret pe_bl)) pss_nil)
      (pss_cons (ps_set (i := 4) scGo.nd rfl (Or.inl rfl) pe_int)
      (pss_cons (ps_for PassesOwn.never rfl (pi_range1 rfl T.range (pa_c (pe_callB call_len_seq rfl T.len bLen (pa_c (pv 1) pa_nil)) pa_nil)) (pg_name (i := 5) scGo.nd rfl (Or.inl rfl))
        (pss_cons (ps_if (PW.pt (pw_and (pt_cmpR op_ne (pv 5) (pv 2) (nomark _)) (pw_and1 (pt_cmpR op_ne (pe_cmpR op_isN (pe_ix ix_tup (pv 1) (pv 5) (fun _ _ => rfl)) pe_non (nomark _)) (pe_cmpR op_isN (pe_ix ix_tup (pv 3) (pv 5) (fun _ _ => rfl)) pe_non (nomark _)) (nomark _))))) (pss_one (ps_ret pe_bl)) pss_nil)
        (pss_one (ps_if (PW.pt (pw_and (pt_cmpR op_ne (pv 5) (pv 2) (nomark _)) (pw_and1 (pt_cmpR op_ne (pe_ix ix_tup (pv 1) (pv 5) (fun _ _ => rfl)) (pe_ix ix_tup (pv 3) (pv 5) (fun _ _ => rfl)) (nomark _))))) (pss_one (ps_set (i := 4) scGo.nd rfl (Or.inl rfl) (pe_op op_add (pv 4) pe_int))) pss_nil))))
      (pss_one (ps_ret (pe_cmpR op_le (pv 4) (pe_op op_mul pe_int (pe_ix ix_tup (pv 0) pe_int (fun _ _ => rfl))) (nomark _)))))), ?_⟩
    have h200 := N.l200
    refine ⟨_, rfl, rfl, _, rfl, ?_⟩
    refine ite2 (fun z => absurd (of_decide_eq_true z) (fun e => nomatch e)) (fun _ => ?_)
    refine ⟨_, rfl, _, rfl, r1, _, _, _, rfl, rfl, SqT.of h1, atI_nat (tv_get hset), rfl, _, rfl, iteF ?_⟩
    refine ⟨_, rfl, r, _, rfl, .inr (SqT.of hR), _, rfl, by omega, (by rw [tv_len]; omega), for_range (lo := 0) (n := (((tv tl).length : Nat) : Int).toNat) (fun i σ H' => H' = H ∧ ∃ v5, σ = [some (.ref p), some (.ref r), some (.int (k : Int)), some (.ref r1), some (.int (chg tl tE k i : Int)), v5])
      ⟨rfl, _, rfl⟩ (fun i σ H' hi ⟨eH, v5, e⟩ => ?_) (fun σ H' ⟨eH, v5, e⟩ => ?_)⟩
    · subst eH e
      rw [tv_len] at hi
      have hit : i < tl.length := by omega
      refine ⟨_, rfl, _, rfl, rfl, _, rfl, ?_⟩
      by_cases hik : i = k
      · have e0 : (!decide (V.int (0 + (i : Int)) = V.int (k : Int))) = false := by rw [hik, Int.zero_add]; simp
        rw [e0]
        refine iteF (iteF ?_)
        refine ⟨_, rfl, _, rfl, rfl, _, rfl, ?_⟩
        rw [e0]
        refine iteF (iteF ⟨rfl, some (.int (0 + (i : Int))), ?_⟩)
        rw [chg_out fun z => z.1 hik]
        rfl
      · have e0 : (!decide (V.int (0 + (i : Int)) = V.int (k : Int))) = true := by
          rw [Bool.not_eq_true', decide_eq_false_iff_not]
          intro z
          have := V.int.inj z
          omega
        rw [e0]
        obtain ⟨o, ho⟩ : ∃ o, tl[i]? = some o := ⟨_, List.getElem?_eq_getElem hit⟩
        obtain ⟨o2, ho2⟩ : ∃ o, tE[i]? = some o := ⟨_, List.getElem?_eq_getElem (by omega)⟩
        have g1 : atI (tv tl) (0 + (i : Int)) = some (tN o) := by rw [Int.zero_add]; exact atI_nat (tv_get ho)
        have g2 : atI (tv tE) (0 + (i : Int)) = some (tN o2) := by rw [Int.zero_add]; exact atI_nat (tv_get ho2)
        have hbi := hbare i hik
        rw [ho, ho2] at hbi
        have hbb : decide (tN o = V.non) = decide (tN o2 = V.non) := by
          rw [decide_eq_decide, tN_non, tN_non]
          exact ⟨fun z => by rw [z] at hbi; exact Option.some.inj (hbi.mpr rfl), fun z => by rw [z] at hbi; exact Option.some.inj (hbi.mp rfl)⟩
        refine iteT ⟨_, rfl, _, rfl, r, _, _, _, rfl, rfl, SqT.of hR, g1, rfl, _, rfl, _, rfl, r1, _, _, _, rfl, rfl, SqT.of h1, g2, rfl, rfl, _, rfl, ?_⟩
        refine ite2 (fun z => ?_) (fun _ => ?_)
        · exfalso
          rw [hbb] at z
          revert z
          simp
        refine ⟨_, rfl, _, rfl, rfl, _, rfl, ?_⟩
        rw [e0]
        refine iteT ⟨_, rfl, _, rfl, r, _, _, _, rfl, rfl, SqT.of hR, g1, _, rfl, _, rfl, r1, _, _, _, rfl, rfl, SqT.of h1, g2, (by cases o <;> cases o2 <;> rfl), _, rfl, ?_⟩
        refine ite2 (fun z => ?_) (fun z => ?_)
        · have hne : tl[i]? ≠ tE[i]? := fun y => by
            rw [ho, ho2] at y
            rw [Option.some.inj y] at z
            revert z
            simp
          refine ⟨_, rfl, _, _, rfl, rfl, rfl, some (.int (0 + (i : Int))), ?_⟩
          rw [chg_in ⟨hik, hne⟩]
          rfl
        · have hno : ¬ (i ≠ k ∧ tl[i]? ≠ tE[i]?) := ?_
          · refine ⟨rfl, some (.int (0 + (i : Int))), ?_⟩
            rw [chg_out hno]
            rfl
          rintro ⟨_, y⟩
          apply z
          rw [Bool.not_eq_true', decide_eq_false_iff_not]
          intro e
          exact y (by rw [ho, ho2, tN_inj e])
    · subst eH e
      have hle := chg_le (i := (((tv tl).length : Nat) : Int).toNat) hch
      refine ⟨_, rfl, _, rfl, p, _, _, _, rfl, rfl, SqT.of N.e1, rfl, _, _, rfl, rfl, .inl ⟨by decide, by decide⟩, _, _, rfl, rfl, ?_⟩
      dsimp only
      rw [decide_eq_true (by omega)]
      exact q
end
end My
set_option Elab.async false
set_option linter.all false
set_option maxRecDepth 100000
set_option maxHeartbeats 4000000
namespace My
open PySem L2
def Kb (h : Addr) (A B : Hp) : Prop := ∀ b o, A b = some o → b ≠ h → B b = some o
theorem Kb.refl (h : Addr) (A : Hp) : Kb h A A := fun _ _ e _ => e
theorem Kb.trans {h : Addr} {A B C : Hp} (x : Kb h A B) (y : Kb h B C) : Kb h A C := fun b o e n => y b o (x b o e n) n
theorem Same.kb {h : Addr} {A B : Hp} (s : Same A B) : Kb h A B := fun b o e _ => s b o e
theorem Kb.wr {h : Addr} {A B : Hp} (x : Kb h A B) (o : HO) : Kb h A (upd B h o) := fun b u e n => by rw [upd_ne n]; exact x b u e n
theorem Kb.tk {h : Addr} {A B : Hp} {xs : List V} (x : Kb h A B) (e : A h = some (.lst xs)) : Tk A B := fun q ys h1 => x q _ h1 (ne_of h1 e fun z => nomatch z)
theorem Kb.none {h : Addr} {A B : Hp} (x : Kb h A B) {d : Addr} (hd : B d = none) (n : d ≠ h) : A d = none := by
  cases z : A d with
  | none => rfl
  | some o => rw [x d o z n] at hd; cases hd
theorem NetZ.tk {H H' : Hp} {p q : Addr} {n : Nat} {ts : List V} {es : List (Nat × Nat)} (h : NetZ H p n q ts es) (k : Tk H H') : NetZ H' p n q ts es :=
  ⟨k _ _ h.e1, k _ _ h.e2, h.len, fun i t e => let ⟨a, x, y⟩ := h.tie i t e; ⟨a, x, k _ _ y⟩, h.l200, h.n60, h.ok⟩
def Eql (H : Hp) (l1 l2 : Addr) : Prop := ∃ tr : List (Addr × Addr × List V), H l1 = some (.lst (tr.map fun x => V.ref x.1)) ∧ H l2 = some (.lst (tr.map fun x => V.ref x.2.1)) ∧ ∀ x ∈ tr, H x.1 = some (.tup x.2.2) ∧ H x.2.1 = some (.tup x.2.2) ∧ ∀ v ∈ x.2.2, Atom v
theorem Eql.kb {h : Addr} {A B : Hp} {xs : List V} {l1 l2 : Addr} (q : Eql A l1 l2) (x : Kb h A B) (e : A h = some (.lst xs)) (n1 : l1 ≠ h) (n2 : l2 ≠ h) : Eql B l1 l2 :=
  let ⟨tr, a, b, c⟩ := q
  ⟨tr, x _ _ a n1, x _ _ b n2, fun y hy => let ⟨d, f, g⟩ := c y hy; ⟨x.tk e _ _ d, x.tk e _ _ f, g⟩⟩
theorem Eql.sam {K : PySem.W.Frag} {H : Hp} {l1 l2 : Addr} (q : Eql H l1 l2) : ∃ xs ys, ((SqT K H l1 xs ∧ SqT K H l2 ys) ∨ (SqL K H l1 xs ∧ SqL K H l2 ys)) ∧ xs.length = ys.length ∧ ∀ (i : Nat) u v, xs[i]? = some u → ys[i]? = some v → Sam K H 6 u v := by
  obtain ⟨tr, a, b, c⟩ := q
  refine ⟨_, _, .inr ⟨SqL.of a, SqL.of b⟩, by rw [List.length_map, List.length_map], fun i u v h1 h2 => ?_⟩
  rw [List.getElem?_map] at h1 h2
  cases z : tr[i]? with
  | none => rw [z] at h1; cases h1
  | some x =>
    rw [z] at h1 h2
    cases h1
    cases h2
    obtain ⟨d, f, g⟩ := c x (List.mem_of_getElem? z)
    refine .inr ⟨_, _, _, _, rfl, rfl, .inl ⟨SqT.of d, SqT.of f⟩, rfl, fun j u v e1 e2 => ?_⟩
    rw [e1] at e2
    cases e2
    exact .inl ⟨rfl, g _ (List.mem_of_getElem? e1)⟩
def PairL (h : Addr) (H : Hp) (x : V) : Prop := ∃ t l1 l2, x = .ref t ∧ t ≠ h ∧ H t = some (.lst [.ref l1, .ref l2]) ∧ l1 ≠ h ∧ l2 ≠ h ∧ Eql H l1 l2
theorem PairL.kb {h : Addr} {A B : Hp} {xs : List V} {v : V} (q : PairL h A v) (x : Kb h A B) (e : A h = some (.lst xs)) : PairL h B v :=
  let ⟨t, l1, l2, a, n, b, c, d, f⟩ := q
  ⟨t, l1, l2, a, n, x _ _ b n, c, d, f.kb x e c d⟩
theorem nl_map (l : List Nat) : nl l = (l.map fun x : Nat => (x : Int)).map V.int := by
  unfold nl
  rw [List.map_map]
  rfl
def bares (tl : List (Option Nat)) (i : Nat) : List Nat := (List.range i).filter fun j => decide (tl[j]? = some none)
theorem bares_in {tl : List (Option Nat)} {i : Nat} (h : tl[i]? = some none) : bares tl (i + 1) = bares tl i ++ [i] := by
  unfold bares
  rw [List.range_succ, List.filter_append, List.filter_cons, if_pos (decide_eq_true h)]
  rfl
theorem bares_out {tl : List (Option Nat)} {i : Nat} (h : ¬ tl[i]? = some none) : bares tl (i + 1) = bares tl i := by
  unfold bares
  rw [List.range_succ, List.filter_append, List.filter_cons, if_neg (fun z => h (of_decide_eq_true z))]
  simp
theorem bares_len (tl : List (Option Nat)) (i : Nat) : (bares tl i).length ≤ i := by
  unfold bares
  exact Nat.le_trans (List.length_filter_le _ _) (by rw [List.length_range]; exact Nat.le_refl _)
theorem cut_bares {tl : List (Option Nat)} {n : Nat} {ns : List Int} {lo hi : Option Int} (h : ns.Perm ((bares tl n).map fun x : Nat => (x : Int))) :
    ∃ ks : List Nat, cutV (ns.map V.int) lo hi = nl ks ∧ ks.Nodup ∧ ks.length ≤ ns.length ∧ ∀ k ∈ ks, k < n ∧ tl[k]? = some none := by
  have hmem : ∀ x ∈ ns, ∃ k ∈ bares tl n, (k : Int) = x := fun x hx => List.mem_map.mp (h.mem_iff.mp hx)
  have hnd : ns.Nodup := by
    refine h.nodup_iff.mpr ?_
    rw [List.nodup_iff_pairwise_ne, List.pairwise_map]
    refine List.Pairwise.imp (fun {a b} q z => q (Int.ofNat_inj.mp z)) (List.nodup_iff_pairwise_ne.mp ?_)
    unfold bares
    exact List.Nodup.sublist List.filter_sublist List.nodup_range
  unfold cutV
  rw [← List.map_drop, ← List.map_take]
  generalize HT.sIx (ns.map V.int).length 0 lo = i
  generalize HT.sIx (ns.map V.int).length (ns.map V.int).length hi - i = j
  have hsub : ((ns.drop i).take j).Sublist ns := (List.take_sublist _ _).trans (List.drop_sublist _ _)
  have hms : ∀ x ∈ (ns.drop i).take j, ∃ k ∈ bares tl n, (k : Int) = x := fun x hx => hmem x (hsub.subset hx)
  refine ⟨((ns.drop i).take j).map Int.toNat, ?_, ?_, by rw [List.length_map]; exact hsub.length_le, fun k hk => ?_⟩
  · unfold nl
    rw [List.map_map]
    refine List.map_congr_left fun x hx => ?_
    obtain ⟨k, _, rfl⟩ := hms x hx
    rfl
  · rw [List.nodup_iff_pairwise_ne, List.pairwise_map]
    refine List.Pairwise.imp_of_mem (fun {a b} ha hb q z => q ?_) (List.nodup_iff_pairwise_ne.mp (hnd.sublist hsub))
    obtain ⟨k, _, rfl⟩ := hms a ha
    obtain ⟨k', _, rfl⟩ := hms b hb
    rw [Int.toNat_natCast, Int.toNat_natCast] at z
    rw [z]
  · obtain ⟨x, hx, rfl⟩ := List.mem_map.mp hk
    obtain ⟨k, hb, rfl⟩ := hms x hx
    rw [Int.toNat_natCast]
    unfold bares at hb
    obtain ⟨h1, h2⟩ := List.mem_filter.mp hb
    exact ⟨List.mem_range.mp h1, of_decide_eq_true h2⟩
theorem zip_st {H : Hp} : ∀ (t1 t2 : List (Addr × Stp)), t1.map (·.2) = t2.map (·.2) → (∀ x ∈ t1, H x.1 = some (.tup (stV x.2))) → (∀ x ∈ t2, H x.1 = some (.tup (stV x.2))) →
    ∃ tr : List (Addr × Addr × List V), (tr.map fun x => V.ref x.1) = (t1.map fun x => V.ref x.1) ∧ (tr.map fun x => V.ref x.2.1) = (t2.map fun x => V.ref x.1) ∧ ∀ x ∈ tr, H x.1 = some (.tup x.2.2) ∧ H x.2.1 = some (.tup x.2.2) ∧ ∀ v ∈ x.2.2, Atom v
  | [], [], _, _, _ => ⟨[], rfl, rfl, fun x hx => by cases hx⟩
  | [], y :: t2, h, _, _ => by cases h
  | x :: t1, [], h, _, _ => by cases h
  | x :: t1, y :: t2, h, h1, h2 => by
    have he := List.cons.inj h
    obtain ⟨tr, a, b, c⟩ := zip_st t1 t2 he.2 (fun z hz => h1 z (.tail _ hz)) (fun z hz => h2 z (.tail _ hz))
    refine ⟨(x.1, y.1, stV x.2) :: tr, by rw [List.map_cons, List.map_cons, a], by rw [List.map_cons, List.map_cons, b], fun z hz => ?_⟩
    rcases List.mem_cons.mp hz with rfl | hz
    · refine ⟨h1 x (.head _), ?_, stV_atom _⟩
      have := h2 y (.head _)
      rw [← (show x.2 = y.2 from he.1)] at this
      exact this
    · exact c z hz
theorem ShSt.eql {H : Hp} {l1 l2 : Addr} {sl : List Stp} (a : ShSt H l1 sl) (b : ShSt H l2 sl) : Eql H l1 l2 := by
  obtain ⟨t1, a1, a2, a3⟩ := a
  obtain ⟨t2, b1, b2, b3⟩ := b
  obtain ⟨tr, c1, c2, c3⟩ := zip_st t1 t2 (a2.trans b2.symm) a3 b3
  exact ⟨tr, by rw [c1]; exact a1, by rw [c2]; exact b1, c3⟩
end My
set_option Elab.async false
set_option linter.all false
set_option maxRecDepth 100000
set_option maxHeartbeats 4000000
namespace L2
open PySem PySem.Spec PyProof.Rows
theorem Gr.at' {P : Addr} {pos : Pos} {qual : Str} {H H' : Hp} (g : Gr P pos qual H H') (t : TabI P pos qual H) {b : Addr} {o : HO} (e : H b = some o) (n : ∀ x, o ≠ .tbl x) : H' b = some o := g.keep b o e fun z => by
  subst z
  rcases t with t | ⟨_, t, _⟩
  · rw [e] at t; exact n _ (Option.some.inj t)
  · rw [e] at t; exact n _ (Option.some.inj t)
theorem TabI.gr {P U : Addr} {pos pos' : Pos} {qual qual' : Str} {H H' : Hp} (u : TabI U pos' qual' H) (g : Gr P pos qual H H') (t : TabI P pos qual H) (n : U ≠ P) : TabI U pos' qual' H' := by
  rcases u with u | ⟨c', u, v⟩
  · exact .inl (g.keep _ _ u n)
  · exact .inr ⟨c', g.keep _ _ u n, g.at' t v fun x z => nomatch z⟩
def forLam : Stmt → Expr
  | .For _ (.Subscript (.Call _ _ [⟨_, e, _⟩] _) _ _) _ _ _ => e
  | _ => .Constant .none 0 ⟨0, 0, 0, 0⟩
theorem op_neDK {X : Cx} {K : PySem.W.Frag} {k : Nat} (hK : X.K = K) (hr : Room k X.A) : OpR X (compareOp .NotEq) (rNeD K false) := by
  subst hK
  exact op_neD hr
theorem ix_listX {X : Cx} {K : PySem.W.Frag} (hK : X.K = K) : IxR X (rIxL K) := by
  subst hK
  exact ix_list
end L2
namespace My
open PySem L2
section
variable {P : Program} {w : World} {K : PySem.W.Frag} {mg : Str → Option Value} {base : Heap} {Pt Pu c cM : Addr}
abbrev sLaw : Stmt := top 41
abbrev nLaw : List Str := ["_law_script", "_law_net_here", "_law_many", "_law_tints_here", "_law_tie", "_law_bare", "_law_way", "_law_held", "_law_steps", "_law_found", "_law_kept", "_law_again", "_law_draws_here"]
abbrev laS1 : Scope := compScope (retE (stOf 41 5))
abbrev laS2 : Scope := compScope (retE (stOf 41 10))
abbrev lamU : Expr := forLam (stOf 41 9)
abbrev upos : Pos := ⟨273, 42, 273, 101⟩
abbrev uqual : Str := "law.<locals>.<lambda>"
def spLaw (K : PySem.W.Frag) (Pt Pu : Addr) : Sp := fun vs H Q _ => ∃ (a : Addr) (ns : List Int), vs = [.ref a] ∧ SqL K H a (ns.map V.int) ∧ ns.length ≤ 63 ∧ TabI Pt lpos lqual H ∧ TabI Pu upos uqual H ∧ ∀ H', Q (.bl true) H'
theorem scLaw : FnScope nLaw ["_law_script"] (defScope sLaw) := ⟨rfl, rfl, rfl, by decide +kernel, rfl, by decide +kernel, by decide +kernel⟩
theorem ndL1 : (["_law_tie", "_law_tints_here"] : List Str).Nodup := by decide +kernel
theorem ndL2 : (["_law_pair"] : List Str).Nodup := by decide +kernel
theorem lamP : Lam "_law_tie" ["_law_draws_here"] (lamArgs lamU) (lamScope lamU) :=
  ⟨rfl, rfl, rfl, by decide +kernel, rfl, fun _ _ _ _ _ _ _ _ => rfl, by decide +kernel⟩
theorem blkPl {f : Addr} {A : Around} {outer : List Env} {s : Shared} {H : Hp} {E : XK} :
    Blk (cxOf CX0 P w K mg base nLaw "law" (defScope sLaw) f (.ref c) A outer s H E).nox (lamScope lamU) [("_law_draws_here", s.heap.objs.size + 2)] ["_law_draws_here"] [some 12] := by
  refine ⟨rfl, rfl, by decide +kernel, by decide +kernel, fun p hp => ?_, fun y hy e => ?_, ⟨rfl, rfl, rfl⟩, trivial⟩
  · rw [List.mem_singleton.mp hp]
    rfl
  · have hy' : y ∈ [((PySem.Str.ofString "_law_tie" : Str), NameKind.local), (PySem.Str.ofString "_law_draws_here", .free), (PySem.Str.ofString "_law_draw", .globalImplicit)] := hy
    simp only [List.mem_cons, List.not_mem_nil, or_false] at hy'
    rcases hy' with rfl | rfl | rfl <;> first | rfl | cases e
theorem blkL1 {f : Addr} {A : Around} {outer : List Env} {s : Shared} {H : Hp} {E : XK} :
    Blk (cxOf CX0 P w K mg base nLaw "law" (defScope sLaw) f (.ref c) A outer s H E).nox laS1 [("_law_tints_here", s.heap.objs.size + 1)] ["_law_tie", "_law_tints_here"] [none, some 3] := by
  refine ⟨rfl, rfl, by decide +kernel, by decide +kernel, fun p hp => ?_, fun y hy e => ?_, ⟨rfl, rfl, rfl⟩, trivial⟩
  · rw [List.mem_singleton.mp hp]
    rfl
  · have hy' : y ∈ [((PySem.Str.ofString ".0" : Str), NameKind.local), (PySem.Str.ofString "_law_tie", .local), (PySem.Str.ofString "_law_tints_here", .free)] := hy
    simp only [List.mem_cons, List.not_mem_nil, or_false] at hy'
    rcases hy' with rfl | rfl | rfl <;> first | rfl | cases e
theorem blkL2 {f : Addr} {A : Around} {outer : List Env} {s : Shared} {H : Hp} {E : XK} :
    Blk (cxOf CX0 P w K mg base nLaw "law" (defScope sLaw) f (.ref c) A outer s H E).nox laS2 [] ["_law_pair"] [none] := by
  refine ⟨rfl, rfl, by decide +kernel, by decide +kernel, fun p hp => (by cases hp), fun y hy e => ?_, trivial⟩
  have hy' : y ∈ [((PySem.Str.ofString ".0" : Str), NameKind.local), (PySem.Str.ofString "_law_pair", .local)] := hy
  simp only [List.mem_cons, List.not_mem_nil, or_false] at hy'
  rcases hy' with rfl | rfl <;> cases e
theorem ok_law {f : Addr} {fd : FuncData} (F : FunC K "law" "law" sLaw f fd c) (T : Bi mg) (hso : mg "sorted" = none) (hbm : BM mg base) (hC : PySem.W.codeHdIn K c Pu = true) (nPU : Pu ≠ Pt) (gM : mg "Plain" = some (.ref cM)) (mM : Mk0 K cM)
    (FDs : FnE P w K mg base "_law_draws" ["_law_script", "_law_many"] 7 (spDs K)) (FD : FnE P w K mg base "_law_draw" ["_law_draws_here", "_law_k"] 1 (spDraw K)) (FNt : FnE P w K mg base "_law_net" ["_law_draws_here", "_law_at"] 7 (spNet K Pt))
    (FLm : FnE P w K mg base "_law_most" ["_law_net_here"] 7 spMo) (MN : MeE P w K mg base cM "needed" ["self", "most"] 7 spNd) (FTi : FnE P w K mg base "_law_tints" ["_law_draws_here", "_law_at", "_law_net_here", "_law_many"] 7 (spTi K))
    (MP : MeE P w K mg base cM "put" ["self", "net", "tints", "tie", "many"] 7 (spPut cM)) (FBe : FnE P w K mg base "_law_behind" ["_law_net_here", "_law_tints_here", "_law_steps", "_law_many"] 7 spBe) (FGo : FnE P w K mg base "_law_good" ["_law_net_here", "_law_tints_here", "_law_tie", "_law_found"] 7 spGo) :
    FnOk P w K mg base CX0 8 f fd ["_law_script"] (spLaw K Pt Pu) := by
  refine F.ok scLaw (fun vs H Q E h => ?_) (fun A outer s H vs Q E hr h => ?_)
  · obtain ⟨a, ns, rfl, _⟩ := h
    rfl
  · obtain ⟨a, ns0, rfl, hS0, hl0, hTt, hTu, q⟩ := h
    have hr1 : Room 1 _ := hr.mono (by decide)
    have hr4 : Room 4 _ := hr.mono (by decide)
    obtain ⟨tB, hTB, rB⟩ : ∃ t, PSs (cxOf CX0 P w K mg base nLaw "law" (defScope sLaw) f (.ref c) A outer s H E).nox ((defBody sLaw).drop 4) t ∧
        ∀ (Hz : Hp) (dr p : Addr) (ns : List Int) (n : Nat) (qa : Addr) (ts : List V) (es : List (Nat × Nat)) (m : Nat) (M : Int), Hz dr = some (.lst (ns.map V.int)) → Dr ns → NetZ Hz p n qa ts es → es.length ≤ 28 → PlainN es → m ≤ 1000 → IsMax (dl es n) M → M < (m : Int) → TabI Pu upos uqual Hz →
          t { nx := fun _ H' => Q .non H', rt := Q } [some (.ref a), some (.ref p), some (.int (m : Int)), none, none, none, none, none, none, none, none, none, some (.ref dr)] Hz := by
      refine ⟨_, pss_cons (ps_set (i := 3) scLaw.nd rfl (Or.inr rfl) (pe_fc FTi hr (pa_c (pv 12) (pa_c pe_int (pa_c (pv 1) (pa_c (pv 2) pa_nil))))))
        (pss_cons (ps_lcR blkL1 rfl rfl T.range (pa_c (pe_callB (call_lenK (K := K) rfl) rfl T.len bLen (pa_c (pv 3) pa_nil)) pa_nil) (monoA_cons (mono_len (monoA_cons (mono_var 3) monoA_nil)) monoA_nil) rfl (fun C fp s H => pg_name (i := 0) ndL1 rfl (Or.inl rfl)) (fun C fp s H => pts_one (pt_cmpR op_isN (pe_ix (ix_tupX (K := K) rfl) (pv 1) (pv 0) (fun _ _ => rfl)) pe_non rfl)) (fun C fp s H => pv 0) (pg_name (i := 5) scLaw.nd rfl (Or.inl rfl)) rfl)
        (pss_cons (ps_set (i := 6) scLaw.nd rfl (Or.inl rfl) (pe_new mM rfl gM))
        (pss_cons (ps_if (pt_cmpR op_gt (pe_me MN hr (pv 6) (pa_c (pe_fc FLm hr (pa_c (pv 1) pa_nil)) pa_nil)) (pv 2) (nomark _)) (pss_one (ps_ret pe_bl)) pss_nil)
        (pss_cons (ps_set (i := 7) scLaw.nd rfl (Or.inl rfl) (pe_lst pa_nil))
        (pss_cons (ps_for PassesOwn.never rfl (pi_list (pe_slice sl_list (pe_sortLam (k := 1) (x := "_law_tie") (P := Pu) (qual := uqual) blkPl lamP hbm rfl hC rfl rfl hr4 rfl hso (pv 5) (fun f' c' A' s' H' hr' => pe_fc FD hr' (pa_c (pv 1) (pa_c (pe_op op_add pe_int (pv 0)) pa_nil)))) po_none (po_some pe_int))) (pg_name (i := 4) scLaw.nd rfl (Or.inl rfl))
          (pss_cons (ps_set (i := 8) scLaw.nd rfl (Or.inl rfl) (pe_me MP hr (pv 6) (pa_c (pv 1) (pa_c (pv 3) (pa_c (pv 4) (pa_c (pv 2) pa_nil))))))
          (pss_cons (ps_set (i := 9) scLaw.nd rfl (Or.inl rfl) (pe_fc FBe hr (pa_c (pv 1) (pa_c (pv 3) (pa_c (pv 8) (pa_c (pv 2) pa_nil))))))
          (pss_cons (ps_if (pt_not (pt_val (pe_fc FGo hr (pa_c (pv 1) (pa_c (pv 3) (pa_c (pv 4) (pa_c (pv 9) pa_nil))))))) (pss_one (ps_ret pe_bl)) pss_nil)
          (pss_cons (ps_set (i := 10) scLaw.nd rfl (Or.inl rfl) (pe_callTy call_list_of rfl T.list bList (pa_c (pv 8) pa_nil)))
          (pss_cons (ps_expr (pe_bm PySem.F.plainAttrs_list PySem.F.slot_list_append PySem.F.type_list_append mt_append (pv 8) (pa_c (pe_tup (pa_c pe_str (pa_c (pv 4) pa_nil))) pa_nil)))
          (pss_cons (ps_set (i := 11) scLaw.nd rfl (Or.inl rfl) (pe_me MP hr (pv 6) (pa_c (pv 1) (pa_c (pv 3) (pa_c (pv 4) (pa_c (pv 2) pa_nil))))))
          (pss_cons (ps_if (PW.pt (pw_or (pt_cmpR (op_neD hr) (pv 11) (pv 10) (nomark _)) (pw_or1 (pt_cmpR op_ne (pe_callB call_len_seq rfl T.len bLen (pa_c (pv 8) pa_nil)) (pe_op op_add (pe_callB call_len_seq rfl T.len bLen (pa_c (pv 10) pa_nil)) pe_int) (nomark _))))) (pss_one (ps_ret pe_bl)) pss_nil)
          (pss_cons (ps_expr (pe_bm PySem.F.plainAttrs_list PySem.F.slot_list_append PySem.F.type_list_append mt_append (pv 7) (pa_c (pe_lst (pa_c (pv 11) (pa_c (pv 10) pa_nil))) pa_nil)))
          (pss_one (ps_set (i := 3) scLaw.nd rfl (Or.inr rfl) (pv 9))))))))))))
        (pss_one (ps_ret (pe_cmpR (op_eqD hr) (pe_lcL blkL2 rfl (pv 7) (mono_var 7) (fun C fp s H => pg_name (i := 0) ndL2 rfl (Or.inl rfl)) (fun C fp s H => pts_one (pt_cmpR (op_neDK (K := K) rfl hr) (pe_ix (ix_listX (K := K) rfl) (pv 0) pe_int (fun _ _ => rfl)) (pe_ix (ix_listX (K := K) rfl) (pv 0) pe_int (fun _ _ => rfl)) rfl)) (fun C fp s H => pv 0)) (pe_lst pa_nil) (nomark _))))))))), fun Hz dr p ns n qa ts es m M hdr hl Nz h28 pl hm hMx hMm hTz => ?_⟩
      have hMd : ∃ M' : Nat, (∀ x, x < n → dg es es.length x ≤ M') ∧ M' < m := ⟨M.toNat, fun x hx => by have := most_le hMx hx; omega, by have := (most_nn hMx).1; omega⟩
      refine ⟨_, rfl, _, rfl, _, rfl, dr, ns, p, n, qa, ts, es, m, rfl, SqL.of hdr, hl, h28, Nz, hm, fun H r tl sz hR htl hCl => ?_⟩
      have N := Nz.same sz
      have hT := hTz.same sz
      have hS : SqL K H dr (ns.map V.int) := SqL.of (sz _ _ hdr)
      refine ⟨_, rfl, r, _, rfl, .inr (SqT.of hR), es.length, (by rw [tv_len, htl]), by omega, fun i ys σ H' => Same H H' ∧ ys = nl (bares tl i) ∧ ∃ v0, σ = [v0, some (.ref r)], ⟨Same.refl _, rfl, none, rfl⟩, fun i ys σ H' hi ⟨_, e, _⟩ => by subst e; rw [nl_len]; exact bares_len _ _, fun i ys σ H' hi ⟨sH, e1, v0, e⟩ => ?_, fun ys σ H0 ⟨s0, e1, _⟩ ba H1 s1 hba => ?_⟩
      · subst e1 e
        obtain ⟨o, ho⟩ : ∃ o, tl[i]? = some o := ⟨_, List.getElem?_eq_getElem (by omega)⟩
        refine ⟨_, rfl, _, rfl, r, _, _, _, rfl, rfl, SqT.of (sH _ _ hR), (by rw [Int.zero_add]; exact atI_nat (tv_get ho)), rfl, _, rfl, ?_⟩
        cases o with
        | none => exact iteT ⟨_, rfl, sH, by rw [bares_in ho, ← nl_app, Int.zero_add], _, rfl⟩
        | some t => exact iteF ⟨sH, by rw [bares_out (fun z => by rw [ho] at z; cases z)], _, rfl⟩
      subst e1
      have sHa := Same.trans s0 s1
      intro sw dx hsw0 hdx0 nx
      have s2 : Same H1 (upd (upd H1 dx (.own sw)) sw (.ins cM dx [])) := Same.trans (same_new hdx0) (same_new (by rw [upd_ne (Ne.symm nx)]; exact hsw0))
      have hsw : (upd (upd H1 dx (.own sw)) sw (.ins cM dx [])) sw = some (.ins cM dx []) := upd_same
      have hba2 := s2 _ _ hba
      have sHb := Same.trans sHa s2
      generalize upd (upd H1 dx (.own sw)) sw (.ins cM dx []) = Hc at s2 hsw hba2 sHb ⊢
      refine ⟨_, rfl, sw, dx, _, rfl, hsw, rfl, _, rfl, p, n, qa, ts, es, rfl, N.same sHb, fun Hd M2 sd hM2 => ⟨sw, M2, rfl, (most_nn hM2).1, _, rfl, _, _, rfl, rfl, _, rfl, ?_⟩⟩
      have hg := max_le hM2 hMd
      refine ite2 (fun z => absurd (of_decide_eq_true z) (by omega)) (fun _ => ?_)
      have sH1 := Same.trans sHb sd
      have hW1 := sd _ _ hsw
      have hba3 := sd _ _ hba2
      refine ⟨Nat.zero_le _, fun hd hhd => ?_⟩
      have hhd0 : H hd = none := sH1.none hhd
      have sH2 : Same H (upd Hd hd (.lst [])) := sH1.wr hhd0
      have sd2 : Same Hd (upd Hd hd (.lst [])) := same_new hhd
      have hba2 : (upd Hd hd (.lst [])) ba = some (.lst (nl (bares tl es.length))) := sd2 _ _ hba3
      have hW2 : (upd Hd hd (.lst [])) sw = some (.ins cM dx []) := sd2 _ _ hW1
      have hbl := bares_len tl es.length
      have hT2 := hT.same sH2
      refine ⟨_, rfl, ba, (bares tl es.length).map (fun x : Nat => (x : Int)), fun z => draw ns (300 + z), [.ref dr], rfl, (by rw [← nl_map]; exact SqL.of hba2), (by rw [List.length_map]; omega), hT2, rfl, fun H3 g3 => ⟨fun x hx => ?_, fun D ns' hD hP hO => ?_⟩⟩
      · obtain ⟨k, hk, rfl⟩ := List.mem_map.mp hx
        have hk18 : k < es.length := by
          unfold bares at hk
          exact List.mem_range.mp (List.mem_filter.mp hk).1
        refine ⟨_, rfl, _, rfl, _, _, rfl, rfl, dr, ns, _, rfl, g3.sqL hT2 (sH2.seq hS), hl, by omega, by omega, rfl, rfl⟩
      have nTb : ∀ (o : HO) (b : Addr), (upd Hd hd (.lst [])) b = some o → (∀ x, o ≠ .tbl x) → H3 b = some o := fun o b e nn => g3.at' hT2 e nn
      have hd3 : H3 hd = some (.lst []) := nTb _ _ upd_same fun x z => nomatch z
      refine ⟨_, rfl, D, _, rfl, SqL.of upd_same, fun Lc hLc => ?_⟩
      obtain ⟨ks, ek, ndk, lk, hks⟩ := cut_bares (lo := none) (hi := some 8) hP
      have lk5 : ks.length ≤ 28 := by have := hP.length_eq; rw [List.length_map] at this; omega
      rw [ek]
      generalize hB : upd (upd H3 D (.lst (ns'.map V.int))) Lc (.lst (nl ks)) = B
      have s3 : Same H3 B := by rw [← hB]; exact Same.trans (same_new hD) (same_new hLc)
      have hdB : B hd = some (.lst []) := s3 _ _ hd3
      have hLB : B Lc = some (.lst (nl ks)) := by rw [← hB]; exact upd_same
      have nLc : Lc ≠ hd := fun z => by subst z; rw [same_new hD _ _ hd3] at hLc; cases hLc
      have tkB : Tk H B := Tk.trans (Tk.trans sH2.tk (g3.tk hT2)) s3.tk
      have NB : NetZ B p n qa ts es := N.tk tkB
      have hWB : B sw = some (.ins cM dx []) := s3 _ _ (nTb _ _ hW2 fun x z => nomatch z)
      refine ⟨Lc, rfl, ⟨_, SqL.of hLB⟩, for_list (K := K) (a := Lc) (xs := nl ks) (fun i σ H' => Kb hd B H' ∧ ∃ (rr : Addr) (tl' : List (Option Nat)) (hs : List V) (v4 v8 v9 v10 v11 : Option V), σ = [some (.ref a), some (.ref p), some (.int (m : Int)), some (.ref rr), v4, some (.ref ba), some (.ref sw), some (.ref hd), v8, v9, v10, v11, some (.ref dr)] ∧ H' rr = some (.tup (tv tl')) ∧ tl'.length = es.length ∧ CleanTo es tl' es.length ∧
          (∀ j, i ≤ j → ∀ k, ks[j]? = some k → tl'[k]? = some none) ∧ H' hd = some (.lst hs) ∧ hs.length = i ∧ ∀ x ∈ hs, PairL hd H' x)
        ⟨Kb.refl _ _, r, tl, [], _, _, _, _, _, rfl, tkB _ _ hR, htl, hCl, fun j _ k hk => (hks k (List.mem_of_getElem? hk)).2, hdB, rfl, fun x hx => by cases hx⟩ (fun i σ H' hi z => SqL.of (z.1 _ _ hLB nLc)) (fun i x σ H' hx ⟨kb, rr, tl', hs, v4, v8, v9, v10, v11, e, hrr, htl', hC', hbr, hH, hln, hpr⟩ => ?_) (fun σ H' ⟨kb, rr, tl', hs, v4, v8, v9, v10, v11, e, hrr, htl', hC', hbr, hH, hln, hpr⟩ => ?_)⟩
      · subst e
        obtain ⟨k, hk, rfl⟩ := nl_inv hx
        have hi18 : i < ks.length := (List.getElem?_eq_some_iff.mp hk).1
        have hkb := hbr i (Nat.le_refl _) k hk
        have hke : k < es.length := (hks k (List.mem_of_getElem? hk)).1
        have N' : NetZ H' p n qa ts es := NB.tk (kb.tk hdB)
        have hW' : H' sw = some (.ins cM dx []) := kb _ _ hWB (ne_of hWB hdB fun z => nomatch z)
        have IR : ∀ G, Kb hd H' G → RmIn G p rr n qa ts es tl' k m := fun G kk => ⟨N'.tk (kk.tk hH), kk.tk hH _ _ hrr, htl', hke, hkb, hC', hm, by omega, pl, hMd⟩
        have I0 := IR H' (Kb.refl _ _)
        obtain ⟨M', hM1, hM3⟩ := hMd
        have RS := putF_ok NB.ok pl hC' htl' hke hkb hM1 hM3
        obtain ⟨tE, w1, w2, w3, w4, w5, lc, w6, w7⟩ := RS.ex
        have few := RS.few
        have n60 := NB.n60
        generalize hsl : putF es tl' k m = sl at *
        refine ⟨_, rfl, sw, dx, _, rfl, hW', rfl, _, rfl, _, rfl, _, rfl, _, rfl, sw, p, rr, n, qa, ts, es, tl', k, m, dx, rfl, hW', I0, fun E1 l s1 hl0 hst => ?_⟩
        rw [hsl] at hst
        refine ⟨_, rfl, _, rfl, _, rfl, _, rfl, p, rr, l, n, qa, ts, es, tl', tE, sl, m, rfl, N'.same s1, s1 _ _ hrr, htl', hst, by omega, w1, fun E2 r2 s2 hr2 => ?_⟩
        have s12 := Same.trans s1 s2
        refine ⟨_, rfl, _, rfl, _, rfl, _, rfl, p, rr, r2, n, qa, ts, es, tl', tE, k, rfl, N'.same s12, s12 _ _ hrr, htl', hr2, w2, w4, w5, ⟨lc, w6, w7⟩, _, rfl, iteF ?_⟩
        have hst2 := hst.same s2
        obtain ⟨tr, el2, etr, eU2⟩ := hst2
        have trl : tr.length ≤ 200 := by have := congrArg List.length etr; rw [List.length_map] at this; omega
        refine ⟨_, rfl, l, _, rfl, .inl (SqL.of el2), fun kl hkl => ?_⟩
        have nkl : kl ≠ l := fun z => by subst z; rw [el2] at hkl; cases hkl
        have nkd : kl ≠ hd := fun z => by subst z; rw [s12 _ _ hH] at hkl; cases hkl
        have nld : l ≠ hd := fun z => by subst z; rw [hH] at hl0; cases hl0
        have s3' : Same H' (upd E2 kl (.lst (tr.map fun x => V.ref x.1))) := Same.trans s12 (same_new hkl)
        have el3 : (upd E2 kl (.lst (tr.map fun x => V.ref x.1))) l = some (.lst (tr.map fun x => V.ref x.1)) := by rw [upd_ne (Ne.symm nkl)]; exact el2
        refine ⟨_, rfl, .inl ⟨rfl, _, SqL.of el3⟩, _, rfl, (by show 2 ≤ sizeLine; decide), fun v1 hv1 => ⟨l, _, _, rfl, rfl, same_new hv1 _ _ el3, (by rw [List.length_map, sizeLine_eq]; omega), ?_⟩⟩
        generalize hE4 : upd (upd E2 kl (.lst (tr.map fun x => V.ref x.1))) v1 (.tup [.str "bare", .int (k : Int)]) = E4
        have s4 : Same (upd E2 kl (.lst (tr.map fun x => V.ref x.1))) E4 := by rw [← hE4]; exact same_new hv1
        have hel4 : E4 l = some (.lst (tr.map fun x => V.ref x.1)) := s4 _ _ el3
        generalize hE5 : upd E4 l (.lst ((tr.map fun x => V.ref x.1) ++ [.ref v1])) = E5
        have s5 : Same H' E5 := by rw [← hE5]; exact (Same.trans s3' s4).wr hl0
        have t45 : Tk E4 E5 := by rw [← hE5]; exact tk_lst hel4
        have hl5 : E5 l = some (.lst ((tr.map fun x => V.ref x.1) ++ [.ref v1])) := by rw [← hE5]; exact upd_same
        have hkl5 : E5 kl = some (.lst (tr.map fun x => V.ref x.1)) := by rw [← hE5, upd_ne nkl]; exact s4 _ _ upd_same
        have hU5 : ∀ x ∈ tr, E5 x.1 = some (.tup (stV x.2)) := fun x hx => t45 _ _ (s4 _ _ (by rw [upd_ne (ne_of_none (eU2 x hx) hkl)]; exact eU2 x hx))
        have hr5 : E5 r2 = some (.tup (tv tE)) := t45 _ _ (s4 _ _ (by rw [upd_ne (ne_of_none hr2 hkl)]; exact hr2))
        have stk5 : ShSt E5 kl sl := ⟨tr, hkl5, etr, hU5⟩
        have k5 : Kb hd H' E5 := Same.kb s5
        have hW5 : E5 sw = some (.ins cM dx []) := s5 _ _ hW'
        refine ⟨_, rfl, sw, dx, _, rfl, hW5, rfl, _, rfl, _, rfl, _, rfl, _, rfl, sw, p, rr, n, qa, ts, es, tl', k, m, dx, rfl, hW5, IR E5 k5, fun E9 l2 s9 hl20 st9 => ?_⟩
        rw [hsl] at st9
        have hH5 : E5 hd = some (.lst hs) := s5 _ _ hH
        have nl2 : l2 ≠ hd := fun z => by subst z; rw [hH5] at hl20; cases hl20
        have q9 : Eql E9 l2 kl := st9.eql (stk5.same s9)
        obtain ⟨xs1, ys1, c1, c2, c3⟩ := q9.sam (K := K)
        refine ⟨_, rfl, _, rfl, l2, kl, xs1, ys1, rfl, rfl, c1, c2, c3, _, rfl, iteF ?_⟩
        refine ⟨_, rfl, l, _, rfl, .inl (SqL.of (s9 _ _ hl5)), _, rfl, kl, _, rfl, .inl (SqL.of (s9 _ _ hkl5)), _, _, rfl, rfl, rfl, _, rfl, ?_⟩
        refine ite2 (fun z => ?_) (fun _ => ?_)
        · exfalso
          rw [Bool.not_eq_true', decide_eq_false_iff_not] at z
          apply z
          rw [List.length_append, Int.natCast_add]
          rfl
        have hH9 : E9 hd = some (.lst hs) := s9 _ _ hH5
        refine ⟨_, rfl, .inl ⟨rfl, _, SqL.of hH9⟩, _, rfl, _, rfl, (by show 2 ≤ sizeLine; decide), fun t2 ht2 => ⟨hd, _, _, rfl, rfl, (by rw [upd_ne (ne_of_none hH9 ht2)]; exact hH9), (by rw [sizeLine_eq]; omega), ?_⟩⟩
        have nt2 : t2 ≠ hd := Ne.symm (ne_of_none hH9 ht2)
        generalize hE13 : upd (upd E9 t2 (.lst [.ref l2, .ref kl])) hd (.lst (hs ++ [.ref t2])) = E13
        have k913 : Kb hd E9 E13 := by rw [← hE13]; exact (Same.kb (same_new ht2)).wr _
        have k513 : Kb hd E5 E13 := (Same.kb s9).trans k913
        have k13 : Kb hd H' E13 := k5.trans k513
        have tk5 := k513.tk hH5
        have ht213 : E13 t2 = some (.lst [.ref l2, .ref kl]) := by rw [← hE13, upd_ne nt2]; exact upd_same
        refine ⟨_, rfl, kb.trans k13, r2, tE, hs ++ [.ref t2], _, _, _, _, _, rfl, tk5 _ _ hr5, w2, w3, fun j hj k' hk' => ?_, by rw [← hE13]; exact upd_same, by rw [List.length_append, hln]; rfl, fun x hx => ?_⟩
        · have hne : k' ≠ k := fun z => by
            subst z
            obtain ⟨b1, c1⟩ := List.getElem?_eq_some_iff.mp hk
            obtain ⟨b2, c2⟩ := List.getElem?_eq_some_iff.mp hk'
            have := (List.getElem_inj ndk).mp (c1.trans c2.symm)
            omega
          exact (w5 k' hne).mpr (hbr j (by omega) k' hk')
        · rcases List.mem_append.mp hx with hx | hx
          · exact (hpr x hx).kb k13 hH
          · rw [List.mem_singleton.mp hx]
            exact ⟨t2, l2, kl, rfl, nt2, ht213, nl2, nkd, q9.kb k913 hH9 nl2 nkd⟩
      · subst e
        rw [nl_len] at hln
        refine ⟨_, rfl, hd, _, rfl, SqL.of hH, (by omega), fun i ys σ H'' => H'' = H' ∧ ys = [] ∧ ∃ v0, σ = [v0], ⟨rfl, rfl, none, rfl⟩, fun i ys σ H'' hi ⟨e, e1, _⟩ => ⟨by subst e; exact SqL.of hH, by subst e1; exact Nat.zero_le _⟩, fun i x ys σ H'' hx ⟨e, e1, v0, e2⟩ => ?_, fun ys σ H'' ⟨e, e1, _⟩ l H4 s4 hl4 => ?_⟩
        · subst e e1 e2
          obtain ⟨t, l1, l2, rfl, _, ht, _, _, hq⟩ := hpr x (List.mem_of_getElem? hx)
          obtain ⟨xs1, ys1, c1, c2, c3⟩ := hq.sam (K := K)
          exact ⟨_, rfl, t, _, _, _, rfl, rfl, SqL.of ht, rfl, _, rfl, t, _, _, _, rfl, rfl, SqL.of ht, rfl, l1, l2, xs1, ys1, rfl, rfl, c1, c2, c3, _, rfl, iteF ⟨rfl, rfl, _, rfl⟩⟩
        · subst e e1
          refine ⟨Nat.zero_le _, fun l' hl' => ⟨l, l', [], [], rfl, rfl, .inr ⟨SqL.of (by rw [upd_ne (ne_of_none hl4 hl')]; exact hl4), SqL.of upd_same⟩, rfl, (fun i u v z => by rw [List.getElem?_nil] at z; cases z), ?_⟩⟩
          exact q _
    refine ⟨_, pss_cons (ps_set (i := 12) scLaw.nd rfl (Or.inr rfl) (pe_fc FDs hr (pa_c (pv 0) (pa_c pe_int pa_nil))))
      (pss_cons (ps_set (i := 1) scLaw.nd rfl (Or.inl rfl) (pe_fc FNt hr (pa_c (pv 12) (pa_c pe_int pa_nil))))
      (pss_cons (ps_set (i := 2) scLaw.nd rfl (Or.inl rfl) (pe_op op_add (pe_op op_add (pe_fc FLm hr (pa_c (pv 1) pa_nil)) pe_int) (pe_callTy call_int1 rfl T.int bInt (pa_c (pe_cmpR op_eq (pe_op op_mod (pe_fc FD hr1 (pa_c (pv 12) (pa_c pe_int pa_nil))) pe_int) pe_int (nomark _)) pa_nil))))
      (pss_cons (ps_if (pt_cmpR op_eq (pe_op op_mod (pe_op op_fdiv (pe_fc FD hr1 (pa_c (pv 12) (pa_c pe_int pa_nil))) pe_int) pe_int) pe_int (nomark _)) (pss_one (ps_set (i := 2) scLaw.nd rfl (Or.inl rfl) (pe_op op_add (pv 2) (pe_op op_mod (pe_op op_fdiv (pe_fc FD hr1 (pa_c (pv 12) (pa_c pe_int pa_nil))) pe_int) pe_int)))) pss_nil)
      hTB))), ?_⟩
    refine ⟨_, rfl, a, ns0, rfl, hS0, hl0, fun H1 dr ds s1 hdr hDr => ?_⟩
    refine ⟨_, rfl, dr, ds, rfl, SqL.of hdr, hDr, hTt.same s1, fun H2 p n qa ts es g2 N h28 pl hn8 => ?_⟩
    have hdr2 := g2.at' (hTt.same s1) hdr fun x z => nomatch z
    have hU2 := (hTu.same s1).gr g2 (hTt.same s1) nPU
    refine ⟨_, rfl, p, n, qa, ts, es, rfl, N, fun H3 M s3 hM => ?_⟩
    have hMn := most_nn hM
    have hdr3 := s3 _ _ hdr2
    have hU3 := hU2.same s3
    refine ⟨_, _, rfl, rfl, _, rfl, dr, ds, _, rfl, SqL.of hdr3, hDr, by omega, by omega, _, _, rfl, rfl, (by show (0 : Int) < 3; decide), rfl, .inr ⟨_, rfl, _, _, rfl, rfl, ?_⟩⟩
    generalize decide (V.int (draw ds 0 % 3) = V.int 1) = bb
    have hc : (0 : Int) ≤ (if bb = true then 1 else 0) ∧ (if bb = true then (1 : Int) else 0) ≤ 1 := by split <;> omega
    refine ⟨_, rfl, dr, ds, _, rfl, SqL.of hdr3, hDr, by omega, by omega, _, _, rfl, rfl, ⟨by decide, by decide⟩, _, _, rfl, rfl, (by show (0 : Int) < 8; decide), rfl, _, rfl, ?_⟩
    refine ite2 (fun _ => ?_) (fun _ => ?_)
    · refine ⟨_, rfl, _, rfl, dr, ds, _, rfl, SqL.of hdr3, hDr, by omega, by omega, _, _, rfl, rfl, ⟨by decide, by decide⟩, _, _, rfl, rfl, (by show (0 : Int) < 900; decide), _, _, rfl, rfl, ?_⟩
      have e1 := mod_lo (n := draw ds 0 / 24) (p := 900) (by decide)
      have e2 := mod_hi (n := draw ds 0 / 24) (p := 900) (by decide)
      obtain ⟨m, em⟩ : ∃ m : Nat, M + 1 + (if bb = true then 1 else 0) + draw ds 0 / 24 % 900 = (m : Int) := ⟨(M + 1 + (if bb = true then 1 else 0) + draw ds 0 / 24 % 900).toNat, by omega⟩
      dsimp only [gName]
      rw [em]
      exact rB H3 dr p ds n qa ts es m M hdr3 hDr (N.same s3) h28 pl (by omega) hM (by omega) hU3
    · obtain ⟨m, em⟩ : ∃ m : Nat, M + 1 + (if bb = true then 1 else 0) = (m : Int) := ⟨(M + 1 + (if bb = true then 1 else 0)).toNat, by omega⟩
      dsimp only [gName]
      rw [em]
      exact rB H3 dr p ds n qa ts es m M hdr3 hDr (N.same s3) h28 pl (by omega) hM (by omega) hU3
end
end My
set_option Elab.async false
set_option linter.all false
set_option maxRecDepth 100000
set_option maxHeartbeats 4000000
namespace My
open PySem L2
theorem hd_any {K : PySem.W.Frag} {P : Addr} (h : (K.any fun p => PySem.W.codeHdIn K p.1 P) = true) : ∃ c, PySem.W.codeHdIn K c P = true := let ⟨p, _, e⟩ := List.any_eq_true.mp h; ⟨p.1, e⟩
theorem all_mk {l : PySem.W.OpenLaw} {w : World} {K : PySem.W.Frag} {h : Heap} {mg : Str → Option Value} {fa Pt Pu c20 c29 cM f1 f2 f3 f4 f5 f6 f7 f8 f9 f10 f11 f12 f13 f14 f15 f16 f17 f18 f19 f20 f21 f22 f23 f24 f25 f26 f27 f28 f29 fN fA fR fP : Addr} (X : K.In h) (G : h.Ns mainGlobals mg) (hfa : mg "law" = some (.ref fa))
     {od1 an1 od2 an2 od3 an3 od4 an4 od5 an5 od6 an6 od7 an7 od8 an8 od9 an9 od10 an10 od11 an11 od12 an12 od13 an13 od14 an14 od15 an15 od16 an16 od17 an17 od18 an18 od19 an19 od20 an20 od21 an21 od22 an22 od23 an23 od24 an24 od25 an25 od26 an26 od27 an27 od28 an28 od29 an29 odN anN odA anA odR anR odP anP : Option Addr} {sl1 sl2 sl3 sl4 sl5 sl6 sl7 sl8 sl9 sl10 sl11 sl12 sl13 sl14 sl15 sl16 sl17 sl18 sl19 sl20 sl21 sl22 sl23 sl24 sl25 sl26 sl27 sl28 sl29 slN slA slR slP : Array (Option Value)} {oc1 kV1 dc1 pm1 cd1 ct1 oc2 kV2 dc2 pm2 cd2 ct2 oc3 kV3 dc3 pm3 cd3 ct3 oc4 kV4 dc4 pm4 cd4 ct4 oc5 kV5 dc5 pm5 cd5 ct5 oc6 kV6 dc6 pm6 cd6 ct6 oc7 kV7 dc7 pm7 cd7 ct7 oc8 kV8 dc8 pm8 cd8 ct8 oc9 kV9 dc9 pm9 cd9 ct9 oc10 kV10 dc10 pm10 cd10 ct10 oc11 kV11 dc11 pm11 cd11 ct11 oc12 kV12 dc12 pm12 cd12 ct12 oc13 kV13 dc13 pm13 cd13 ct13 oc14 kV14 dc14 pm14 cd14 ct14 oc15 kV15 dc15 pm15 cd15 ct15 oc16 kV16 dc16 pm16 cd16 ct16 oc17 kV17 dc17 pm17 cd17 ct17 oc18 kV18 dc18 pm18 cd18 ct18 oc19 kV19 dc19 pm19 cd19 ct19 oc20 kV20 dc20 pm20 ct20 oc21 kV21 dc21 pm21 cd21 ct21 oc22 kV22 dc22 pm22 cd22 ct22 oc23 kV23 dc23 pm23 cd23 ct23 oc24 kV24 dc24 pm24 cd24 ct24 oc25 kV25 dc25 pm25 cd25 ct25 oc26 kV26 dc26 pm26 cd26 ct26 oc27 kV27 dc27 pm27 cd27 ct27 oc28 kV28 dc28 pm28 cd28 ct28 oc29 kV29 dc29 pm29 ct29 ocN kVN dcN pmN cdN ctN ocA kVA dcA pmA cdA ctA ocR kVR dcR pmR cdR ctR ocP kVP dcP pmP cdP ctP : Value}
    (a1 : PySem.W.nsIn K mainGlobals "is_number" = some (some (.ref f1)))
    (l1 : K.lookup f1 = some ⟨oc1, od1, .func (PySem.W.fnOf "is_number" "is_number" (defArgs sNum) (defBody sNum) (defScope sNum) .none kV1 dc1 pm1 an1 cd1 ct1), sl1⟩)
    (c1' : PySem.W.codeIn K cd1 "is_number" = true)
    (k1 : PySem.W.keepIn K (.ref f1) = true)
    (a2 : PySem.W.nsIn K mainGlobals "is_below" = some (some (.ref f2)))
    (l2 : K.lookup f2 = some ⟨oc2, od2, .func (PySem.W.fnOf "is_below" "is_below" (defArgs sBel) (defBody sBel) (defScope sBel) .none kV2 dc2 pm2 an2 cd2 ct2), sl2⟩)
    (c2' : PySem.W.codeIn K cd2 "is_below" = true)
    (k2 : PySem.W.keepIn K (.ref f2) = true)
    (a3 : PySem.W.nsIn K mainGlobals "ties_at" = some (some (.ref f3)))
    (l3 : K.lookup f3 = some ⟨oc3, od3, .func (PySem.W.fnOf "ties_at" "ties_at" (defArgs sAt) (defBody sAt) (defScope sAt) .none kV3 dc3 pm3 an3 cd3 ct3), sl3⟩)
    (c3' : PySem.W.codeIn K cd3 "ties_at" = true)
    (k3 : PySem.W.keepIn K (.ref f3) = true)
    (a4 : PySem.W.nsIn K mainGlobals "across" = some (some (.ref f4)))
    (l4 : K.lookup f4 = some ⟨oc4, od4, .func (PySem.W.fnOf "across" "across" (defArgs sAc) (defBody sAc) (defScope sAc) .none kV4 dc4 pm4 an4 cd4 ct4), sl4⟩)
    (c4' : PySem.W.codeIn K cd4 "across" = true)
    (k4 : PySem.W.keepIn K (.ref f4) = true)
    (a5 : PySem.W.nsIn K mainGlobals "most_of" = some (some (.ref f5)))
    (l5 : K.lookup f5 = some ⟨oc5, od5, .func (PySem.W.fnOf "most_of" "most_of" (defArgs sMo) (defBody sMo) (defScope sMo) .none kV5 dc5 pm5 an5 cd5 ct5), sl5⟩)
    (c5' : PySem.W.codeIn K cd5 "most_of" = true)
    (k5 : PySem.W.keepIn K (.ref f5) = true)
    (a6 : PySem.W.nsIn K mainGlobals "two_tinted" = some (some (.ref f6)))
    (l6 : K.lookup f6 = some ⟨oc6, od6, .func (PySem.W.fnOf "two_tinted" "two_tinted" (defArgs sTt) (defBody sTt) (defScope sTt) .none kV6 dc6 pm6 an6 cd6 ct6), sl6⟩)
    (c6' : PySem.W.codeIn K cd6 "two_tinted" = true)
    (k6 : PySem.W.keepIn K (.ref f6) = true)
    (a7 : PySem.W.nsIn K mainGlobals "chain" = some (some (.ref f7)))
    (l7 : K.lookup f7 = some ⟨oc7, od7, .func (PySem.W.fnOf "chain" "chain" (defArgs sCh) (defBody sCh) (defScope sCh) .none kV7 dc7 pm7 an7 cd7 ct7), sl7⟩)
    (c7' : PySem.W.codeIn K cd7 "chain" = true)
    (k7 : PySem.W.keepIn K (.ref f7) = true)
    (a8 : PySem.W.nsIn K mainGlobals "turned" = some (some (.ref f8)))
    (l8 : K.lookup f8 = some ⟨oc8, od8, .func (PySem.W.fnOf "turned" "turned" (defArgs sTu) (defBody sTu) (defScope sTu) .none kV8 dc8 pm8 an8 cd8 ct8), sl8⟩)
    (c8' : PySem.W.codeIn K cd8 "turned" = true)
    (k8 : PySem.W.keepIn K (.ref f8) = true)
    (a9 : PySem.W.nsIn K mainGlobals "tints_at" = some (some (.ref f9)))
    (l9 : K.lookup f9 = some ⟨oc9, od9, .func (PySem.W.fnOf "tints_at" "tints_at" (defArgs sTa) (defBody sTa) (defScope sTa) .none kV9 dc9 pm9 an9 cd9 ct9), sl9⟩)
    (c9' : PySem.W.codeIn K cd9 "tints_at" = true)
    (k9 : PySem.W.keepIn K (.ref f9) = true)
    (a10 : PySem.W.nsIn K mainGlobals "free_tints" = some (some (.ref f10)))
    (l10 : K.lookup f10 = some ⟨oc10, od10, .func (PySem.W.fnOf "free_tints" "free_tints" (defArgs sFt) (defBody sFt) (defScope sFt) .none kV10 dc10 pm10 an10 cd10 ct10), sl10⟩)
    (c10' : PySem.W.codeIn K cd10 "free_tints" = true)
    (k10 : PySem.W.keepIn K (.ref f10) = true)
    (a11 : PySem.W.nsIn K mainGlobals "free_at_both" = some (some (.ref f11)))
    (l11 : K.lookup f11 = some ⟨oc11, od11, .func (PySem.W.fnOf "free_at_both" "free_at_both" (defArgs sFb) (defBody sFb) (defScope sFb) .none kV11 dc11 pm11 an11 cd11 ct11), sl11⟩)
    (c11' : PySem.W.codeIn K cd11 "free_at_both" = true)
    (k11 : PySem.W.keepIn K (.ref f11) = true)
    (a12 : PySem.W.nsIn K mainGlobals "like_pair" = some (some (.ref f12)))
    (l12 : K.lookup f12 = some ⟨oc12, od12, .func (PySem.W.fnOf "like_pair" "like_pair" (defArgs sLp) (defBody sLp) (defScope sLp) .none kV12 dc12 pm12 an12 cd12 ct12), sl12⟩)
    (c12' : PySem.W.codeIn K cd12 "like_pair" = true)
    (k12 : PySem.W.keepIn K (.ref f12) = true)
    (a13 : PySem.W.nsIn K mainGlobals "next_in_fan" = some (some (.ref f13)))
    (l13 : K.lookup f13 = some ⟨oc13, od13, .func (PySem.W.fnOf "next_in_fan" "next_in_fan" (defArgs sNf) (defBody sNf) (defScope sNf) .none kV13 dc13 pm13 an13 cd13 ct13), sl13⟩)
    (c13' : PySem.W.codeIn K cd13 "next_in_fan" = true)
    (k13 : PySem.W.keepIn K (.ref f13) = true)
    (a14 : PySem.W.nsIn K mainGlobals "fan_of" = some (some (.ref f14)))
    (l14 : K.lookup f14 = some ⟨oc14, od14, .func (PySem.W.fnOf "fan_of" "fan_of" (defArgs sFa) (defBody sFa) (defScope sFa) .none kV14 dc14 pm14 an14 cd14 ct14), sl14⟩)
    (c14' : PySem.W.codeIn K cd14 "fan_of" = true)
    (k14 : PySem.W.keepIn K (.ref f14) = true)
    (a15 : PySem.W.nsIn K mainGlobals "handed_on" = some (some (.ref f15)))
    (l15 : K.lookup f15 = some ⟨oc15, od15, .func (PySem.W.fnOf "handed_on" "handed_on" (defArgs sHn) (defBody sHn) (defScope sHn) .none kV15 dc15 pm15 an15 cd15 ct15), sl15⟩)
    (c15' : PySem.W.codeIn K cd15 "handed_on" = true)
    (k15 : PySem.W.keepIn K (.ref f15) = true)
    (a16 : PySem.W.nsIn K mainGlobals "turned_and_handed_on" = some (some (.ref f16)))
    (l16 : K.lookup f16 = some ⟨oc16, od16, .func (PySem.W.fnOf "turned_and_handed_on" "turned_and_handed_on" (defArgs sTh) (defBody sTh) (defScope sTh) .none kV16 dc16 pm16 an16 cd16 ct16), sl16⟩)
    (c16' : PySem.W.codeIn K cd16 "turned_and_handed_on" = true)
    (k16 : PySem.W.keepIn K (.ref f16) = true)
    (a17 : PySem.W.nsIn K mainGlobals "_law_mixed" = some (some (.ref f17)))
    (l17 : K.lookup f17 = some ⟨oc17, od17, .func (PySem.W.fnOf "_law_mixed" "_law_mixed" (defArgs sMx) (defBody sMx) (defScope sMx) .none kV17 dc17 pm17 an17 cd17 ct17), sl17⟩)
    (c17' : PySem.W.codeIn K cd17 "_law_mixed" = true)
    (k17 : PySem.W.keepIn K (.ref f17) = true)
    (a18 : PySem.W.nsIn K mainGlobals "_law_draws" = some (some (.ref f18)))
    (l18 : K.lookup f18 = some ⟨oc18, od18, .func (PySem.W.fnOf "_law_draws" "_law_draws" (defArgs sDs) (defBody sDs) (defScope sDs) .none kV18 dc18 pm18 an18 cd18 ct18), sl18⟩)
    (c18' : PySem.W.codeIn K cd18 "_law_draws" = true)
    (k18 : PySem.W.keepIn K (.ref f18) = true)
    (a19 : PySem.W.nsIn K mainGlobals "_law_draw" = some (some (.ref f19)))
    (l19 : K.lookup f19 = some ⟨oc19, od19, .func (PySem.W.fnOf "_law_draw" "_law_draw" (defArgs sDraw) (defBody sDraw) (defScope sDraw) .none kV19 dc19 pm19 an19 cd19 ct19), sl19⟩)
    (c19' : PySem.W.codeIn K cd19 "_law_draw" = true)
    (k19 : PySem.W.keepIn K (.ref f19) = true)
    (a20 : PySem.W.nsIn K mainGlobals "_law_net" = some (some (.ref f20)))
    (l20 : K.lookup f20 = some ⟨oc20, od20, .func (PySem.W.fnOf "_law_net" "_law_net" (defArgs sNet) (defBody sNet) (defScope sNet) .none kV20 dc20 pm20 an20 (.ref c20) ct20), sl20⟩)
    (c20' : PySem.W.codeIn K (.ref c20) "_law_net" = true)
    (k20 : PySem.W.keepIn K (.ref f20) = true)
    (a21 : PySem.W.nsIn K mainGlobals "_law_most" = some (some (.ref f21)))
    (l21 : K.lookup f21 = some ⟨oc21, od21, .func (PySem.W.fnOf "_law_most" "_law_most" (defArgs sLm) (defBody sLm) (defScope sLm) .none kV21 dc21 pm21 an21 cd21 ct21), sl21⟩)
    (c21' : PySem.W.codeIn K cd21 "_law_most" = true)
    (k21 : PySem.W.keepIn K (.ref f21) = true)
    (a22 : PySem.W.nsIn K mainGlobals "_law_tints" = some (some (.ref f22)))
    (l22 : K.lookup f22 = some ⟨oc22, od22, .func (PySem.W.fnOf "_law_tints" "_law_tints" (defArgs sTi) (defBody sTi) (defScope sTi) .none kV22 dc22 pm22 an22 cd22 ct22), sl22⟩)
    (c22' : PySem.W.codeIn K cd22 "_law_tints" = true)
    (k22 : PySem.W.keepIn K (.ref f22) = true)
    (a23 : PySem.W.nsIn K mainGlobals "_law_below" = some (some (.ref f23)))
    (l23 : K.lookup f23 = some ⟨oc23, od23, .func (PySem.W.fnOf "_law_below" "_law_below" (defArgs sUn) (defBody sUn) (defScope sUn) .none kV23 dc23 pm23 an23 cd23 ct23), sl23⟩)
    (c23' : PySem.W.codeIn K cd23 "_law_below" = true)
    (k23 : PySem.W.keepIn K (.ref f23) = true)
    (a24 : PySem.W.nsIn K mainGlobals "_law_is_clean" = some (some (.ref f24)))
    (l24 : K.lookup f24 = some ⟨oc24, od24, .func (PySem.W.fnOf "_law_is_clean" "_law_is_clean" (defArgs sIc) (defBody sIc) (defScope sIc) .none kV24 dc24 pm24 an24 cd24 ct24), sl24⟩)
    (c24' : PySem.W.codeIn K cd24 "_law_is_clean" = true)
    (k24 : PySem.W.keepIn K (.ref f24) = true)
    (a25 : PySem.W.nsIn K mainGlobals "_law_turn" = some (some (.ref f25)))
    (l25 : K.lookup f25 = some ⟨oc25, od25, .func (PySem.W.fnOf "_law_turn" "_law_turn" (defArgs sTd) (defBody sTd) (defScope sTd) .none kV25 dc25 pm25 an25 cd25 ct25), sl25⟩)
    (c25' : PySem.W.codeIn K cd25 "_law_turn" = true)
    (k25 : PySem.W.keepIn K (.ref f25) = true)
    (a26 : PySem.W.nsIn K mainGlobals "_law_step" = some (some (.ref f26)))
    (l26 : K.lookup f26 = some ⟨oc26, od26, .func (PySem.W.fnOf "_law_step" "_law_step" (defArgs sSd) (defBody sSd) (defScope sSd) .none kV26 dc26 pm26 an26 cd26 ct26), sl26⟩)
    (c26' : PySem.W.codeIn K cd26 "_law_step" = true)
    (k26 : PySem.W.keepIn K (.ref f26) = true)
    (a27 : PySem.W.nsIn K mainGlobals "_law_behind" = some (some (.ref f27)))
    (l27 : K.lookup f27 = some ⟨oc27, od27, .func (PySem.W.fnOf "_law_behind" "_law_behind" (defArgs sBe) (defBody sBe) (defScope sBe) .none kV27 dc27 pm27 an27 cd27 ct27), sl27⟩)
    (c27' : PySem.W.codeIn K cd27 "_law_behind" = true)
    (k27 : PySem.W.keepIn K (.ref f27) = true)
    (a28 : PySem.W.nsIn K mainGlobals "_law_good" = some (some (.ref f28)))
    (l28 : K.lookup f28 = some ⟨oc28, od28, .func (PySem.W.fnOf "_law_good" "_law_good" (defArgs sGo) (defBody sGo) (defScope sGo) .none kV28 dc28 pm28 an28 cd28 ct28), sl28⟩)
    (c28' : PySem.W.codeIn K cd28 "_law_good" = true)
    (k28 : PySem.W.keepIn K (.ref f28) = true)
    (a29 : PySem.W.nsIn K mainGlobals "law" = some (some (.ref f29)))
    (l29 : K.lookup f29 = some ⟨oc29, od29, .func (PySem.W.fnOf "law" "law" (defArgs sLaw) (defBody sLaw) (defScope sLaw) .none kV29 dc29 pm29 an29 (.ref c29) ct29), sl29⟩)
    (c29' : PySem.W.codeIn K (.ref c29) "law" = true)
    (k29 : PySem.W.keepIn K (.ref f29) = true)
    (aM : PySem.W.nsIn K mainGlobals "Plain" = some (some (.ref cM)))
    (mN : PySem.W.findIn K (.ref cM) "needed" = some (some (.ref fN)))
    (iN : PySem.W.isFn K (.ref fN) = true)
    (lN : K.lookup fN = some ⟨ocN, odN, .func (PySem.W.fnOf "needed" "Plain.needed" (defArgs sNd) (defBody sNd) (defScope sNd) .none kVN dcN pmN anN cdN ctN), slN⟩)
    (cN' : PySem.W.codeIn K cdN "Plain.needed" = true)
    (kN : PySem.W.keepIn K (.ref fN) = true)
    (mA : PySem.W.findIn K (.ref cM) "asked" = some (some (.ref fA)))
    (iA : PySem.W.isFn K (.ref fA) = true)
    (lA : K.lookup fA = some ⟨ocA, odA, .func (PySem.W.fnOf "asked" "Plain.asked" (defArgs sAk) (defBody sAk) (defScope sAk) .none kVA dcA pmA anA cdA ctA), slA⟩)
    (cA' : PySem.W.codeIn K cdA "Plain.asked" = true)
    (kA : PySem.W.keepIn K (.ref fA) = true)
    (mR : PySem.W.findIn K (.ref cM) "made_room" = some (some (.ref fR)))
    (iR : PySem.W.isFn K (.ref fR) = true)
    (lR : K.lookup fR = some ⟨ocR, odR, .func (PySem.W.fnOf "made_room" "Plain.made_room" (defArgs sMr) (defBody sMr) (defScope sMr) .none kVR dcR pmR anR cdR ctR), slR⟩)
    (cR' : PySem.W.codeIn K cdR "Plain.made_room" = true)
    (kR : PySem.W.keepIn K (.ref fR) = true)
    (mP : PySem.W.findIn K (.ref cM) "put" = some (some (.ref fP)))
    (iP : PySem.W.isFn K (.ref fP) = true)
    (lP : K.lookup fP = some ⟨ocP, odP, .func (PySem.W.fnOf "put" "Way.put" (defArgs sPut) (defBody sPut) (defScope sPut) .none kVP dcP pmP anP cdP ctP), slP⟩)
    (cP' : PySem.W.codeIn K cdP "Way.put" = true)
    (kP : PySem.W.keepIn K (.ref fP) = true)
    (pgM : PySem.W.plainGet K cM Str.empty = true)
    (hdM : PySem.W.hasDictIn K cM = true)
    (poM : PySem.W.plainOver K cM = true)
    (saM : PySem.W.findIn K (.ref cM) "__setattr__" = some (some (.builtin "object.__setattr__")))
    (mkM : PySem.W.makesIn K cM = true)
    (inM : PySem.W.findIn K (.ref cM) "__init__" = some (some (.builtin "object.__init__")))
    (kcM : PySem.W.keepIn K (.ref cM) = true)
    (hC20 : PySem.W.codeHdIn K c20 Pt = true)
    (hC29 : PySem.W.codeHdIn K c29 Pu = true)
    (nPU : Pu ≠ Pt)
    (z1 : PySem.W.nsIn K mainGlobals "len" = some none)
    (z2 : PySem.W.nsIn K mainGlobals "isinstance" = some none)
    (z3 : PySem.W.nsIn K mainGlobals "int" = some none)
    (z4 : PySem.W.nsIn K mainGlobals "bool" = some none)
    (z5 : PySem.W.nsIn K mainGlobals "tuple" = some none)
    (z6 : PySem.W.nsIn K mainGlobals "list" = some none)
    (z7 : PySem.W.nsIn K mainGlobals "range" = some none)
    (z8 : PySem.W.nsIn K mainGlobals "max" = some none)
    (z9 : PySem.W.nsIn K mainGlobals "min" = some none)
    (z10 : PySem.W.nsIn K mainGlobals "zip" = some none)
    (z11 : PySem.W.nsIn K mainGlobals "dict" = some none)
    (z12 : PySem.W.nsIn K mainGlobals "sorted" = some none)
    (z13 : PySem.W.nsIn K mainGlobals "str" = some none)
    (z14 : PySem.W.nsIn K mainGlobals "enumerate" = some none)
    : ∃ fd : FuncData, (∀ (s : Shared) (v : Value), BindsTo s fd ⟨[v], []⟩ [("_law_script", v)]) ∧ ∀ base : Heap, K.In base → base.Ns mainGlobals mg → BM mg base → FnOk l.prog w K mg base CX0 8 fa fd ["_law_script"] (spLaw K Pt Pu) := by
  have e := hfa.symm.trans (PySem.W.mg_of X G a29)
  cases e
  have F1 := fun_mk (st := sNum) l1 c1' k1
  have F2 := fun_mk (st := sBel) l2 c2' k2
  have F3 := fun_mk (st := sAt) l3 c3' k3
  have F4 := fun_mk (st := sAc) l4 c4' k4
  have F5 := fun_mk (st := sMo) l5 c5' k5
  have F6 := fun_mk (st := sTt) l6 c6' k6
  have F7 := fun_mk (st := sCh) l7 c7' k7
  have F8 := fun_mk (st := sTu) l8 c8' k8
  have F9 := fun_mk (st := sTa) l9 c9' k9
  have F10 := fun_mk (st := sFt) l10 c10' k10
  have F11 := fun_mk (st := sFb) l11 c11' k11
  have F12 := fun_mk (st := sLp) l12 c12' k12
  have F13 := fun_mk (st := sNf) l13 c13' k13
  have F14 := fun_mk (st := sFa) l14 c14' k14
  have F15 := fun_mk (st := sHn) l15 c15' k15
  have F16 := fun_mk (st := sTh) l16 c16' k16
  have F17 := fun_mk (st := sMx) l17 c17' k17
  have F18 := fun_mk (st := sDs) l18 c18' k18
  have F19 := fun_mk (st := sDraw) l19 c19' k19
  have F20 := fun_mk (st := sNet) l20 c20' k20
  have F21 := fun_mk (st := sLm) l21 c21' k21
  have F22 := fun_mk (st := sTi) l22 c22' k22
  have F23 := fun_mk (st := sUn) l23 c23' k23
  have F24 := fun_mk (st := sIc) l24 c24' k24
  have F25 := fun_mk (st := sTd) l25 c25' k25
  have F26 := fun_mk (st := sSd) l26 c26' k26
  have F27 := fun_mk (st := sBe) l27 c27' k27
  have F28 := fun_mk (st := sGo) l28 c28' k28
  have F29 := fun_mk (st := sLaw) l29 c29' k29
  have F20c : FunC K "_law_net" "_law_net" sNet f20 _ c20 := ⟨oc20, od20, kV20, dc20, pm20, an20, ct20, sl20, rfl, l20, c20'⟩
  have F29c : FunC K "law" "law" sLaw fa _ c29 := ⟨oc29, od29, kV29, dc29, pm29, an29, ct29, sl29, rfl, l29, c29'⟩
  have b1 := F1.binds (ps := ["thing"]) fun _ _ _ _ _ _ us hl => match us, hl with | [_], _ => rfl
  have b2 := F2.binds (ps := ["thing", "bound"]) fun _ _ _ _ _ _ us hl => match us, hl with | [_, _], _ => rfl
  have b3 := F3.binds (ps := ["net", "point"]) fun _ _ _ _ _ _ us hl => match us, hl with | [_, _], _ => rfl
  have b4 := F4.binds (ps := ["net", "tie", "point"]) fun _ _ _ _ _ _ us hl => match us, hl with | [_, _, _], _ => rfl
  have b5 := F5.binds (ps := ["net"]) fun _ _ _ _ _ _ us hl => match us, hl with | [_], _ => rfl
  have b6 := F6.binds (ps := ["net", "tints", "one", "other"]) fun _ _ _ _ _ _ us hl => match us, hl with | [_, _, _, _], _ => rfl
  have b7 := F7.binds (ps := ["net", "tints", "point", "one", "other"]) fun _ _ _ _ _ _ us hl => match us, hl with | [_, _, _, _, _], _ => rfl
  have b8 := F8.binds (ps := ["net", "tints", "point", "one", "other"]) fun _ _ _ _ _ _ us hl => match us, hl with | [_, _, _, _, _], _ => rfl
  have b9 := F9.binds (ps := ["net", "tints", "point"]) fun _ _ _ _ _ _ us hl => match us, hl with | [_, _, _], _ => rfl
  have b10 := F10.binds (ps := ["net", "tints", "point", "many"]) fun _ _ _ _ _ _ us hl => match us, hl with | [_, _, _, _], _ => rfl
  have b11 := F11.binds (ps := ["net", "tints", "one", "other", "many"]) fun _ _ _ _ _ _ us hl => match us, hl with | [_, _, _, _, _], _ => rfl
  have b12 := F12.binds (ps := ["net"]) fun _ _ _ _ _ _ us hl => match us, hl with | [_], _ => rfl
  have b13 := F13.binds (ps := ["net", "tints", "hub", "fan", "many"]) fun _ _ _ _ _ _ us hl => match us, hl with | [_, _, _, _, _], _ => rfl
  have b14 := F14.binds (ps := ["net", "tints", "hub", "tie", "many"]) fun _ _ _ _ _ _ us hl => match us, hl with | [_, _, _, _, _], _ => rfl
  have b15 := F15.binds (ps := ["tints", "fan", "last_tint"]) fun _ _ _ _ _ _ us hl => match us, hl with | [_, _, _], _ => rfl
  have b16 := F16.binds (ps := ["net", "tints", "hub", "fan", "many"]) fun _ _ _ _ _ _ us hl => match us, hl with | [_, _, _, _, _], _ => rfl
  have b17 := F17.binds (ps := ["_law_cell", "_law_k"]) fun _ _ _ _ _ _ us hl => match us, hl with | [_, _], _ => rfl
  have b18 := F18.binds (ps := ["_law_script", "_law_many"]) fun _ _ _ _ _ _ us hl => match us, hl with | [_, _], _ => rfl
  have b19 := F19.binds (ps := ["_law_draws_here", "_law_k"]) fun _ _ _ _ _ _ us hl => match us, hl with | [_, _], _ => rfl
  have b20 := F20.binds (ps := ["_law_draws_here", "_law_at"]) fun _ _ _ _ _ _ us hl => match us, hl with | [_, _], _ => rfl
  have b21 := F21.binds (ps := ["_law_net_here"]) fun _ _ _ _ _ _ us hl => match us, hl with | [_], _ => rfl
  have b22 := F22.binds (ps := ["_law_draws_here", "_law_at", "_law_net_here", "_law_many"]) fun _ _ _ _ _ _ us hl => match us, hl with | [_, _, _, _], _ => rfl
  have b23 := F23.binds (ps := ["_law_thing", "_law_most_here"]) fun _ _ _ _ _ _ us hl => match us, hl with | [_, _], _ => rfl
  have b24 := F24.binds (ps := ["_law_net_here", "_law_tints_here"]) fun _ _ _ _ _ _ us hl => match us, hl with | [_, _], _ => rfl
  have b25 := F25.binds (ps := ["_law_net_here", "_law_tints_here", "_law_point", "_law_one", "_law_other"]) fun _ _ _ _ _ _ us hl => match us, hl with | [_, _, _, _, _], _ => rfl
  have b26 := F26.binds (ps := ["_law_net_here", "_law_tints_here", "_law_step_here", "_law_many"]) fun _ _ _ _ _ _ us hl => match us, hl with | [_, _, _, _], _ => rfl
  have b27 := F27.binds (ps := ["_law_net_here", "_law_tints_here", "_law_steps", "_law_many"]) fun _ _ _ _ _ _ us hl => match us, hl with | [_, _, _, _], _ => rfl
  have b28 := F28.binds (ps := ["_law_net_here", "_law_tints_here", "_law_tie", "_law_found"]) fun _ _ _ _ _ _ us hl => match us, hl with | [_, _, _, _], _ => rfl
  have CM : Cls K cM := ⟨pgM, hdM, poM, saM⟩
  have mM : Mk0 K cM := ⟨mkM, inM, kcM⟩
  have gM := PySem.W.mg_of X G aM
  have FN := fun_mk (st := sNd) lN cN' kN
  have bN := FN.binds (ps := ["self", "most"]) fun _ _ _ _ _ _ us hl => match us, hl with | [_, _], _ => rfl
  have FA := fun_mk (st := sAk) lA cA' kA
  have bA := FA.binds (ps := ["self", "net"]) fun _ _ _ _ _ _ us hl => match us, hl with | [_, _], _ => rfl
  have FR := fun_mk (st := sMr) lR cR' kR
  have bR := FR.binds (ps := ["self", "net", "tints", "tie", "many"]) fun _ _ _ _ _ _ us hl => match us, hl with | [_, _, _, _, _], _ => rfl
  have FP := fun_mk (st := sPut) lP cP' kP
  have bP := FP.binds (ps := ["self", "net", "tints", "tie", "many"]) fun _ _ _ _ _ _ us hl => match us, hl with | [_, _, _, _, _], _ => rfl
  have T : Bi mg := ⟨PySem.W.mg_none_of X G z1, PySem.W.mg_none_of X G z2, PySem.W.mg_none_of X G z3, PySem.W.mg_none_of X G z4, PySem.W.mg_none_of X G z5, PySem.W.mg_none_of X G z6, PySem.W.mg_none_of X G z7, PySem.W.mg_none_of X G z8, PySem.W.mg_none_of X G z9, PySem.W.mg_none_of X G z10, PySem.W.mg_none_of X G z11⟩
  have g1 := PySem.W.mg_of X G a1
  have g2 := PySem.W.mg_of X G a2
  have g3 := PySem.W.mg_of X G a3
  have g4 := PySem.W.mg_of X G a4
  have g5 := PySem.W.mg_of X G a5
  have g6 := PySem.W.mg_of X G a6
  have g7 := PySem.W.mg_of X G a7
  have g8 := PySem.W.mg_of X G a8
  have g9 := PySem.W.mg_of X G a9
  have g10 := PySem.W.mg_of X G a10
  have g11 := PySem.W.mg_of X G a11
  have g12 := PySem.W.mg_of X G a12
  have g13 := PySem.W.mg_of X G a13
  have g14 := PySem.W.mg_of X G a14
  have g15 := PySem.W.mg_of X G a15
  have g16 := PySem.W.mg_of X G a16
  have g17 := PySem.W.mg_of X G a17
  have g18 := PySem.W.mg_of X G a18
  have g19 := PySem.W.mg_of X G a19
  have g20 := PySem.W.mg_of X G a20
  have g21 := PySem.W.mg_of X G a21
  have g22 := PySem.W.mg_of X G a22
  have g23 := PySem.W.mg_of X G a23
  have g24 := PySem.W.mg_of X G a24
  have g25 := PySem.W.mg_of X G a25
  have g26 := PySem.W.mg_of X G a26
  have g27 := PySem.W.mg_of X G a27
  have g28 := PySem.W.mg_of X G a28
  refine ⟨PySem.W.fnOf "law" "law" (defArgs sLaw) (defBody sLaw) (defScope sLaw) .none kV29 dc29 pm29 an29 (.ref c29) ct29, fun s v => .of_eq rfl, fun base _ _ hbm => ?_⟩
  have E1 : FnE l.prog w K mg base "is_number" ["thing"] 1 spNum := ⟨⟨f1, _, ok_num F1 T, g1, k1, b1⟩⟩
  have E2 : FnE l.prog w K mg base "is_below" ["thing", "bound"] 2 spBel := ⟨⟨f2, _, ok_bel F2 E1, g2, k2, b2⟩⟩
  have E3 : FnE l.prog w K mg base "ties_at" ["net", "point"] 1 spAt := ⟨⟨f3, _, ok_at F3 T (PySem.W.mg_none_of X G z14), g3, k3, b3⟩⟩
  have E4 : FnE l.prog w K mg base "across" ["net", "tie", "point"] 1 spAc := ⟨⟨f4, _, ok_ac F4, g4, k4, b4⟩⟩
  have E5 : FnE l.prog w K mg base "most_of" ["net"] 1 spMo := ⟨⟨f5, _, ok_mo F5 T, g5, k5, b5⟩⟩
  have E6 : FnE l.prog w K mg base "two_tinted" ["net", "tints", "one", "other"] 1 spTt := ⟨⟨f6, _, ok_tt F6 T (PySem.W.mg_none_of X G z14), g6, k6, b6⟩⟩
  have E7 : FnE l.prog w K mg base "chain" ["net", "tints", "point", "one", "other"] 2 spCh := ⟨⟨f7, _, ok_ch F7 T (PySem.W.mg_none_of X G z12) E6 E4, g7, k7, b7⟩⟩
  have E8 : FnE l.prog w K mg base "turned" ["net", "tints", "point", "one", "other"] 3 spTu := ⟨⟨f8, _, ok_tu F8 T E7, g8, k8, b8⟩⟩
  have E9 : FnE l.prog w K mg base "tints_at" ["net", "tints", "point"] 1 (spTa l.prog w) := ⟨⟨f9, _, ok_ta F9 T, g9, k9, b9⟩⟩
  have E10 : FnE l.prog w K mg base "free_tints" ["net", "tints", "point", "many"] 2 spFt := ⟨⟨f10, _, ok_ft F10 T E9, g10, k10, b10⟩⟩
  have E11 : FnE l.prog w K mg base "free_at_both" ["net", "tints", "one", "other", "many"] 3 spFb := ⟨⟨f11, _, ok_fb F11 T (E9.mono (by decide)) E10, g11, k11, b11⟩⟩
  have E12 : FnE l.prog w K mg base "like_pair" ["net"] 1 spLp := ⟨⟨f12, _, ok_lp F12 T (PySem.W.mg_none_of X G z14), g12, k12, b12⟩⟩
  have E13 : FnE l.prog w K mg base "next_in_fan" ["net", "tints", "hub", "fan", "many"] 4 spNf := ⟨⟨f13, _, ok_nf F13 (E10.mono (by decide)) (E3.mono (by decide)) (E4.mono (by decide)), g13, k13, b13⟩⟩
  have E14 : FnE l.prog w K mg base "fan_of" ["net", "tints", "hub", "tie", "many"] 5 spFa := ⟨⟨f14, _, ok_fa F14 (E11.mono (by decide)) (E4.mono (by decide)) E13, g14, k14, b14⟩⟩
  have E15 : FnE l.prog w K mg base "handed_on" ["tints", "fan", "last_tint"] 1 spHn := ⟨⟨f15, _, ok_hn F15 T, g15, k15, b15⟩⟩
  have E16 : FnE l.prog w K mg base "turned_and_handed_on" ["net", "tints", "hub", "fan", "many"] 5 spTh := ⟨⟨f16, _, ok_th F16 (E10.mono (by decide)) (E4.mono (by decide)) (E8.mono (by decide)) (E15.mono (by decide)), g16, k16, b16⟩⟩
  have MN : MeE l.prog w K mg base cM "needed" ["self", "most"] 1 spNd := ⟨⟨fN, _, ok_nd FN, ⟨mN, iN, kN⟩, CM, bN⟩⟩
  have MA : MeE l.prog w K mg base cM "asked" ["self", "net"] 2 spAk := ⟨⟨fA, _, ok_ak FA E12, ⟨mA, iA, kA⟩, CM, bA⟩⟩
  have MR : MeE l.prog w K mg base cM "made_room" ["self", "net", "tints", "tie", "many"] 6 spMr := ⟨⟨fR, _, ok_mr FR E14 (E11.mono (by decide)) (E4.mono (by decide)) (E15.mono (by decide)) E16, ⟨mR, iR, kR⟩, CM, bR⟩⟩
  have MP : MeE l.prog w K mg base cM "put" ["self", "net", "tints", "tie", "many"] 7 (spPut cM) := ⟨⟨fP, _, ok_put FP T (E2.mono (by decide)) (E5.mono (by decide)) (E11.mono (by decide)) (MN.mono (by decide)) (MA.mono (by decide)) MR, ⟨mP, iP, kP⟩, CM, bP⟩⟩
  have E17 : FnE l.prog w K mg base "_law_mixed" ["_law_cell", "_law_k"] 1 spMx := ⟨⟨f17, _, ok_mx F17 T, g17, k17, b17⟩⟩
  have E18 : FnE l.prog w K mg base "_law_draws" ["_law_script", "_law_many"] 2 (spDs K) := ⟨⟨f18, _, ok_ds F18 T E17, g18, k18, b18⟩⟩
  have E19 : FnE l.prog w K mg base "_law_draw" ["_law_draws_here", "_law_k"] 1 (spDraw K) := ⟨⟨f19, _, ok_draw F19 T, g19, k19, b19⟩⟩
  have E20 : FnE l.prog w K mg base "_law_net" ["_law_draws_here", "_law_at"] 5 (spNet K Pt) := ⟨⟨f20, _, ok_net F20c T (PySem.W.mg_none_of X G z12) hbm hC20 E19, g20, k20, b20⟩⟩
  have E21 : FnE l.prog w K mg base "_law_most" ["_law_net_here"] 1 spMo := ⟨⟨f21, _, ok_lm F21 T, g21, k21, b21⟩⟩
  have E22 : FnE l.prog w K mg base "_law_tints" ["_law_draws_here", "_law_at", "_law_net_here", "_law_many"] 2 (spTi K) := ⟨⟨f22, _, ok_ti F22 T E19, g22, k22, b22⟩⟩
  have E23 : FnE l.prog w K mg base "_law_below" ["_law_thing", "_law_most_here"] 1 spBel := ⟨⟨f23, _, ok_un F23 T, g23, k23, b23⟩⟩
  have E24 : FnE l.prog w K mg base "_law_is_clean" ["_law_net_here", "_law_tints_here"] 1 spIc := ⟨⟨f24, _, ok_ic F24 T, g24, k24, b24⟩⟩
  have E25 : FnE l.prog w K mg base "_law_turn" ["_law_net_here", "_law_tints_here", "_law_point", "_law_one", "_law_other"] 1 spTd := ⟨⟨f25, _, ok_td F25 T, g25, k25, b25⟩⟩
  have E26 : FnE l.prog w K mg base "_law_step" ["_law_net_here", "_law_tints_here", "_law_step_here", "_law_many"] 2 spSd := ⟨⟨f26, _, ok_sd F26 T (PySem.W.mg_none_of X G z13) E23 E25, g26, k26, b26⟩⟩
  have E27 : FnE l.prog w K mg base "_law_behind" ["_law_net_here", "_law_tints_here", "_law_steps", "_law_many"] 3 spBe := ⟨⟨f27, _, ok_be F27 T E26 (E24.mono (by decide)), g27, k27, b27⟩⟩
  have E28 : FnE l.prog w K mg base "_law_good" ["_law_net_here", "_law_tints_here", "_law_tie", "_law_found"] 1 spGo := ⟨⟨f28, _, ok_go F28 T, g28, k28, b28⟩⟩
  exact ok_law F29c T (PySem.W.mg_none_of X G z12) hbm hC29 nPU gM mM (E18.mono (by decide)) E19 (E20.mono (by decide)) (E21.mono (by decide)) (MN.mono (by decide)) (E22.mono (by decide)) MP (E27.mono (by decide)) (E28.mono (by decide))
theorem walk {l : PySem.W.OpenLaw} {q : Program} {loose : List Str} {XP : (Str → Option Value) → Heap → Prop} {YP : World → Heap → Prop} {d : DefRec} {K : Params → PySem.W.Frag} {Pt Pu : Addr} (hn : l.most = some 63) (hdf : d.params.defaults = [])
    (hY : ∀ (w : World) (h : Heap), YP w h → (K w.params).In h) (hY2 : ∀ (w : World) (h : Heap), YP w h → ∀ Q ∈ [Pt, Pu], h.get? Q = some (PySem.W.tabObj #[])) (hKn : ∀ w : World, PySem.W.noTabs (K w.params) = true) (hC : ∀ w : World, ∀ Q ∈ [Pt, Pu], ∃ c, PySem.W.codeHdIn (K w.params) c Q = true)
    (F : ∀ (w : World) (mg : Str → Option Value) (fa : Addr) (h : Heap), (K w.params).In h → h.Ns mainGlobals mg → mg d.name = some (.ref fa) →
      ∃ fd : FuncData, (∀ (s : Shared) (u : Value), BindsTo s fd ⟨[u], []⟩ [("_law_script", u)]) ∧ ∀ base : Heap, (K w.params).In base → base.Ns mainGlobals mg → BM mg base → FnOk l.prog w (K w.params) mg base CX0 8 fa fd ["_law_script"] (spLaw (K w.params) Pt Pu)) :
    PySem.W.WalkO q loose XP YP l.row.toRowW d [] (fun f vs => PySem.call f vs) :=
  walk_ofT (n := 63) (k := 8) (x := "_law_script") (ts := [Pt, Pu]) (sp := fun K => spLaw K Pt Pu) hn (by decide) hdf ⟨rfl, by decide, by decide⟩ hY hY2 hKn hC F
    (fun K H a ns hl hT hS => ⟨a, ns, rfl, hS, hl, .inl (hT Pt (.head _)), .inl (hT Pu (.tail _ (.head _))), fun _ => rfl⟩)
end My
set_option Elab.async false
open PySem PySem.W PyProof.Rows
def PySem.W.Fast.tw9376599462224215226 : Unit := ()
def PySem.W.Fast.tw7344810894496585340 : Unit := ()
def PySem.W.Fast.tw5892658450669889631 : Unit := ()
def PySem.W.Fast.tw8149128234282433451 : Unit := ()
def PySem.W.Fast.tw10421716443152592129 : Unit := ()
def PySem.W.Fast.tw5703606803649872508 : Unit := ()
def PySem.W.Fast.tw9007172441247742759 : Unit := ()
def PySem.W.Fast.tw13050086816008838748 : Unit := ()
def PySem.W.Fast.tw10594232436733238364 : Unit := ()
def PySem.W.Fast.tw17873026361564044752 : Unit := ()
def PySem.W.Fast.tw15523269944364964029 : Unit := ()
def PySem.W.Fast.tw11219733558269049138 : Unit := ()
def PySem.W.Fast.tw10777435869138316535 : Unit := ()
def PySem.W.Fast.tw5123487890007513745 : Unit := ()
def PySem.W.Fast.tw4870506073764179943 : Unit := ()
def PySem.W.Fast.tw17563178877322954775 : Unit := ()
def PySem.W.Fast.tw6522651149962202598 : Unit := ()
def PySem.W.Fast.tw14828243264189577341 : Unit := ()
def PySem.W.Fast.tw15802088115841194738 : Unit := ()
def PySem.W.Fast.tw8021584877793361544 : Unit := ()
def PySem.W.Fast.tw12791753686780377783 : Unit := ()
def PySem.W.Fast.tw2178360468530360317 : Unit := ()
def PySem.W.Fast.tw4018569274674517955 : Unit := ()
def PySem.W.Fast.tw12334387128923516305 : Unit := ()
def PySem.W.Fast.tw5129820093852689014 : Unit := ()
def PySem.W.Fast.tw17089793252929886000 : Unit := ()
def PySem.W.Fast.tw6731267192076146816 : Unit := ()
def PySem.W.Fast.tw9692211754155569945 : Unit := ()
def PySem.W.Fast.tw1626667237809340130 : Unit := ()
def PySem.W.Fast.tw552220398714759732 : Unit := ()
def PySem.W.Fast.tw8831684402614737838 : Unit := ()
def PySem.W.Fast.tw7640702316556535886 : Unit := ()
def PySem.W.Fast.tw430559339225046051 : Unit := ()
def PySem.W.Fast.tw1019462114994067151 : Unit := ()
def PySem.W.Fast.tw6479788537659225537 : Unit := ()
def PySem.W.Fast.tw3563960470368417682 : Unit := ()
def PySem.W.Fast.tw3702420486235352057 : Unit := ()
def PySem.W.Fast.tw2621112778709497399 : Unit := ()
def PySem.W.Fast.tw1910883251651244348 : Unit := ()
def PySem.W.Fast.tw8929391411838409958 : Unit := ()
def PySem.W.Fast.tw9417213465481564990 : Unit := ()
def PySem.W.Fast.tw3870468854708183008 : Unit := ()
def PySem.W.Fast.tw5417970618597030934 : Unit := ()
def PySem.W.Fast.tw3623170191730207919 : Unit := ()
def PySem.W.Fast.tw2293834353926920805 : Unit := ()
def PySem.W.Fast.tw10262388197947744328 : Unit := ()
def PySem.W.Fast.tw15369138252490958173 : Unit := ()
def PySem.W.Fast.tw15868226121199778993 : Unit := ()
def PySem.W.Fast.tw10415425414657493819 : Unit := ()
def PySem.W.Fast.tw4403232046324849153 : Unit := ()
def PySem.W.Fast.tw14030182057309297868 : Unit := ()
def PySem.W.Fast.tw10998029696291685394 : Unit := ()
def PySem.W.Fast.tw8897233745533783808 : Unit := ()
def PySem.W.Fast.tw17228946651364857015 : Unit := ()
def PySem.W.Fast.tw14166817409625666592 : Unit := ()
def PySem.W.Fast.tw512114442567801748 : Unit := ()
def PySem.W.Fast.tw7398939233352990938 : Unit := ()
def PySem.W.Fast.tw10499329229856416112 : Unit := ()
def PySem.W.Fast.tw3458617815893125713 : Unit := ()
def PySem.W.Fast.tw12005044639373244604 : Unit := ()
def PySem.W.Fast.tw6576260445076629998 : Unit := ()
def PySem.W.Fast.tw11414382919555384824 : Unit := ()
def PySem.W.Fast.tw80206253948516922 : Unit := ()
def PySem.W.Fast.tw17031166580069278354 : Unit := ()
def PySem.W.Fast.tw17271605322079601581 : Unit := ()
def PySem.W.Fast.tw6550639933475255795 : Unit := ()
def PySem.W.Fast.tw4256806687859356078 : Unit := ()
def PySem.W.Fast.tw17859934876780104608 : Unit := ()
def PySem.W.Fast.tw7228981668709133552 : Unit := ()
set_option maxRecDepth 100000 in
set_option maxHeartbeats 0 in
theorem PySem.Challenge.cw_tintties_k34_whole_fans_put_holds : PySem.Challenge.rw_tintties_k34_whole_fans_put.Holds := by
  w_on; o_law; k_head; (case hw => w_witness2)
  k_fill
  refine My.walk (l := PySem.Challenge.rw_tintties_k34_whole_fans_put) rfl rfl (fun w h Y => PySem.W.km_in_of Y) (fun w h Y => PySem.W.km_tabs_of Y) ?n ?c ?F
  case n => intro w; kernel_rfl
  case c =>
    intro w Q hQ
    simp only [List.mem_cons, List.not_mem_nil, or_false] at hQ
    rcases hQ with rfl | rfl
    all_goals (refine My.hd_any ?_; kernel_rfl)
  case F =>
    intro w mg fa h KX G hmg
    refine' My.all_mk KX G hmg ?a1 ?l1 ?c1p ?k1 ?a2 ?l2 ?c2p ?k2 ?a3 ?l3 ?c3p ?k3 ?a4 ?l4 ?c4p ?k4 ?a5 ?l5 ?c5p ?k5 ?a6 ?l6 ?c6p ?k6 ?a7 ?l7 ?c7p ?k7 ?a8 ?l8 ?c8p ?k8 ?a9 ?l9 ?c9p ?k9 ?a10 ?l10 ?c10p ?k10 ?a11 ?l11 ?c11p ?k11 ?a12 ?l12 ?c12p ?k12 ?a13 ?l13 ?c13p ?k13 ?a14 ?l14 ?c14p ?k14 ?a15 ?l15 ?c15p ?k15 ?a16 ?l16 ?c16p ?k16 ?a17 ?l17 ?c17p ?k17 ?a18 ?l18 ?c18p ?k18 ?a19 ?l19 ?c19p ?k19 ?a20 ?l20 ?c20p ?k20 ?a21 ?l21 ?c21p ?k21 ?a22 ?l22 ?c22p ?k22 ?a23 ?l23 ?c23p ?k23 ?a24 ?l24 ?c24p ?k24 ?a25 ?l25 ?c25p ?k25 ?a26 ?l26 ?c26p ?k26 ?a27 ?l27 ?c27p ?k27 ?a28 ?l28 ?c28p ?k28 ?a29 ?l29 ?c29p ?k29 ?aM ?mN ?iN ?lN ?cNp ?kN ?mA ?iA ?lA ?cAp ?kA ?mR ?iR ?lR ?cRp ?kR ?mP ?iP ?lP ?cPp ?kP ?pgM ?hdM ?poM ?saM ?mkM ?inM ?kcM ?hC20 ?hC29 ?nPU ?z1 ?z2 ?z3 ?z4 ?z5 ?z6 ?z7 ?z8 ?z9 ?z10 ?z11 ?z12 ?z13 ?z14
    (case a1 => k_is); (case l1 => k_is); (case c1p => k_is); (case k1 => k_is)
    (case a2 => k_is); (case l2 => k_is); (case c2p => k_is); (case k2 => k_is)
    (case a3 => k_is); (case l3 => k_is); (case c3p => k_is); (case k3 => k_is)
    (case a4 => k_is); (case l4 => k_is); (case c4p => k_is); (case k4 => k_is)
    (case a5 => k_is); (case l5 => k_is); (case c5p => k_is); (case k5 => k_is)
    (case a6 => k_is); (case l6 => k_is); (case c6p => k_is); (case k6 => k_is)
    (case a7 => k_is); (case l7 => k_is); (case c7p => k_is); (case k7 => k_is)
    (case a8 => k_is); (case l8 => k_is); (case c8p => k_is); (case k8 => k_is)
    (case a9 => k_is); (case l9 => k_is); (case c9p => k_is); (case k9 => k_is)
    (case a10 => k_is); (case l10 => k_is); (case c10p => k_is); (case k10 => k_is)
    (case a11 => k_is); (case l11 => k_is); (case c11p => k_is); (case k11 => k_is)
    (case a12 => k_is); (case l12 => k_is); (case c12p => k_is); (case k12 => k_is)
    (case a13 => k_is); (case l13 => k_is); (case c13p => k_is); (case k13 => k_is)
    (case a14 => k_is); (case l14 => k_is); (case c14p => k_is); (case k14 => k_is)
    (case a15 => k_is); (case l15 => k_is); (case c15p => k_is); (case k15 => k_is)
    (case a16 => k_is); (case l16 => k_is); (case c16p => k_is); (case k16 => k_is)
    (case a17 => k_is); (case l17 => k_is); (case c17p => k_is); (case k17 => k_is)
    (case a18 => k_is); (case l18 => k_is); (case c18p => k_is); (case k18 => k_is)
    (case a19 => k_is); (case l19 => k_is); (case c19p => k_is); (case k19 => k_is)
    (case a20 => k_is); (case l20 => k_is); (case c20p => k_is); (case k20 => k_is)
    (case a21 => k_is); (case l21 => k_is); (case c21p => k_is); (case k21 => k_is)
    (case a22 => k_is); (case l22 => k_is); (case c22p => k_is); (case k22 => k_is)
    (case a23 => k_is); (case l23 => k_is); (case c23p => k_is); (case k23 => k_is)
    (case a24 => k_is); (case l24 => k_is); (case c24p => k_is); (case k24 => k_is)
    (case a25 => k_is); (case l25 => k_is); (case c25p => k_is); (case k25 => k_is)
    (case a26 => k_is); (case l26 => k_is); (case c26p => k_is); (case k26 => k_is)
    (case a27 => k_is); (case l27 => k_is); (case c27p => k_is); (case k27 => k_is)
    (case a28 => k_is); (case l28 => k_is); (case c28p => k_is); (case k28 => k_is)
    (case a29 => k_is); (case l29 => k_is); (case c29p => k_is); (case k29 => k_is)
    (case aM => k_is); (case mN => k_is); (case iN => k_is); (case lN => k_is)
    (case cNp => k_is); (case kN => k_is); (case mA => k_is); (case iA => k_is)
    (case lA => k_is); (case cAp => k_is); (case kA => k_is); (case mR => k_is)
    (case iR => k_is); (case lR => k_is); (case cRp => k_is); (case kR => k_is)
    (case mP => k_is); (case iP => k_is); (case lP => k_is); (case cPp => k_is)
    (case kP => k_is); (case pgM => k_is); (case hdM => k_is); (case poM => k_is)
    (case saM => k_is); (case mkM => k_is); (case inM => k_is); (case kcM => k_is)
    (case hC20 => kernel_rfl); (case hC29 => kernel_rfl); (case nPU => decide); (case z1 => k_is)
    (case z2 => k_is); (case z3 => k_is); (case z4 => k_is); (case z5 => k_is)
    (case z6 => k_is); (case z7 => k_is); (case z8 => k_is); (case z9 => k_is)
    (case z10 => k_is); (case z11 => k_is); (case z12 => k_is); (case z13 => k_is)
    (case z14 => k_is)
#print axioms PySem.Challenge.cw_tintties_k34_whole_fans_put_holds
