import PyProof.Rows.All
import Wide.All
import OpenK.AllK
import Wide.FinOn
import Lean
import PyProof.EqAt
import PyProof.EqKinds
import PyProof.TupleCall
import PySem.SetTable
import PySem.SetOps
import PyProof.Rows.SetFrom
import PyProof.NeKinds
import PyProof.Rows.StrInSeq3
import PyProof.AttrMissHeap
import PyProof.Rows.SeqMore2
import PySem.Challenge.RW_tintties_k61_bars
set_option Elab.async false
set_option linter.all false
set_option maxRecDepth 100000
namespace L2
open PySem PySem.Spec PyProof.Rows
abbrev Key := Sum Int Str
def keyIs : Key → Value → Bool
  | .inl k, v => Value.isInt k v
  | .inr x, v => Value.isStrOf x v
def keyH (w : World) : Key → Int
  | .inl k => hashInt k
  | .inr x => hashStr w x
theorem keyIs_shape : ∀ {k : Key} {v : Value}, keyIs k v = true → (∃ i t, k = Sum.inl i ∧ v = Value.int i t) ∨ (∃ x t, k = Sum.inr x ∧ v = Value.str x t)
  | .inl i, v, h => by
    obtain ⟨t, e⟩ := Value.isInt_shape (k := i) (v := v) h
    exact .inl ⟨i, t, rfl, e⟩
  | .inr x, v, h => by
    obtain ⟨t, e⟩ := Value.isStrOf_shape (x := x) (v := v) h
    exact .inr ⟨x, t, rfl, e⟩
theorem key_ll (a b : Int) : decide ((Sum.inl a : Key) = Sum.inl b) = (a == b) := by
  by_cases e : a = b
  · subst e; simp
  · have h : ¬ (Sum.inl a : Key) = Sum.inl b := fun q => e (Sum.inl.inj q)
    rw [decide_eq_false h]
    exact (beq_eq_false_iff_ne.mpr e).symm
theorem key_rr (a b : Str) : decide ((Sum.inr a : Key) = Sum.inr b) = decide (a = b) := by
  by_cases e : a = b
  · subst e; simp
  · have h : ¬ (Sum.inr a : Key) = Sum.inr b := fun q => e (Sum.inr.inj q)
    rw [decide_eq_false h, decide_eq_false e]
theorem key_lr (a : Int) (b : Str) : decide ((Sum.inl a : Key) = Sum.inr b) = false := decide_eq_false (fun q => nomatch q)
theorem key_rl (a : Str) (b : Int) : decide ((Sum.inr a : Key) = Sum.inl b) = false := decide_eq_false (fun q => nomatch q)
def mixKind (prog : Program) (w : World) : PySem.KeyKind prog w Key where
  is := keyIs
  hash := keyH w
  inj := fun v a b ha hb => by
    rcases keyIs_shape ha with ⟨i, t, rfl, rfl⟩ | ⟨x, t, rfl, rfl⟩
    · rcases keyIs_shape hb with ⟨j, u, rfl, e⟩ | ⟨y, u, rfl, e⟩
      · injection e with e1 _; rw [e1]
      · exact nomatch e
    · rcases keyIs_shape hb with ⟨j, u, rfl, e⟩ | ⟨y, u, rfl, e⟩
      · exact nomatch e
      · injection e with e1 _; rw [e1]
  byValue := fun k v h => by
    rcases keyIs_shape h with ⟨i, t, rfl, rfl⟩ | ⟨x, t, rfl, rfl⟩ <;> rfl
  pyHash := fun hv h => by
    rcases keyIs_shape hv with ⟨i, t, rfl, rfl⟩ | ⟨x, t, rfl, rfl⟩
    · exact wpAny_pyHash_int h
    · exact wpAny_pyHash_str h
  eqBool := fun hu hv h => by
    rcases keyIs_shape hu with ⟨i, t, rfl, rfl⟩ | ⟨x, t, rfl, rfl⟩
    · rcases keyIs_shape hv with ⟨j, u, rfl, rfl⟩ | ⟨y, u, rfl, rfl⟩
      · rw [key_ll] at h; exact wpAny_eqBool_int h
      · rw [key_lr] at h; exact SeqAt.EqAt.int_str i t y u _ _ _ _ h
    · rcases keyIs_shape hv with ⟨j, u, rfl, rfl⟩ | ⟨y, u, rfl, rfl⟩
      · rw [key_rl] at h; exact SeqAt.EqAt.str_int x t j u _ _ _ _ h
      · rw [key_rr] at h; exact wpAny_eqBool_str h
  «strs» := fun k x t v h => by
    rcases keyIs_shape h with ⟨i, u, rfl, e⟩ | ⟨y, u, rfl, e⟩
    · exact nomatch e
    · injection e with e1 _
      subst e1
      cases v <;> rfl
end L2
namespace L2
open PySem PySem.Spec PyProof.Rows
inductive V where
  | non | bl (b : Bool) | int (i : Int) | str (x : Str) | byt (b : Array UInt8) | flt (b : UInt64) | ref (a : Addr) | ty (n : String)
  deriving DecidableEq
def RelV : V → Value → Prop
  | .non, u => u = Value.none
  | .bl b, u => u = Value.bool b
  | .int i, u => ∃ t, u = Value.int i t
  | .str x, u => ∃ t, u = Value.str x t
  | .byt b, u => ∃ t, u = Value.bytes b t
  | .flt b, u => ∃ t, u = Value.float b t
  | .ref a, u => u = Value.ref a
  | .ty n, u => u = Value.type n
abbrev Vals : List V → List Value → Prop := Paired RelV
theorem Vals.length {xs : List V} {us : List Value} (r : Vals xs us) : xs.length = us.length := Paired.length r
theorem Vals.get : ∀ {xs : List V} {us : List Value} {i : Nat} {x : V}, Vals xs us → xs[i]? = some x → ∃ u, us[i]? = some u ∧ RelV x u
  | _, _, _, _, .nil, e => by simp at e
  | _, _, 0, _, .cons r _, e => by simp at e; subst e; exact ⟨_, rfl, r⟩
  | _, _, i + 1, x, .cons _ t, e => by
    obtain ⟨u, h1, h2⟩ := Vals.get (i := i) (x := x) t (by simpa using e)
    exact ⟨u, by simpa using h1, h2⟩
theorem Vals.set {x : V} {u : Value} (r : RelV x u) : ∀ {xs : List V} {us : List Value} (i : Nat), Vals xs us → Vals (xs.set i x) (us.set i u)
  | _, _, _, .nil => .nil
  | _, _, 0, .cons _ t => .cons r t
  | _, _, i + 1, .cons q t => .cons q (Vals.set r i t)
theorem Vals.append : ∀ {xs ys : List V} {us ws : List Value}, Vals xs us → Vals ys ws → Vals (xs ++ ys) (us ++ ws)
  | _, _, _, _, .nil, s => s
  | _, _, _, _, .cons r t, s => .cons r (Vals.append t s)
theorem Vals.take : ∀ {xs : List V} {us : List Value} (n : Nat), Vals xs us → Vals (xs.take n) (us.take n)
  | _, _, 0, _ => .nil
  | _, _, _ + 1, .nil => .nil
  | _, _, n + 1, .cons r t => .cons r (Vals.take n t)
theorem Vals.drop : ∀ {xs : List V} {us : List Value} (n : Nat), Vals xs us → Vals (xs.drop n) (us.drop n)
  | _, _, 0, r => r
  | _, _, _ + 1, .nil => .nil
  | _, _, n + 1, .cons _ t => Vals.drop n t
def RelO : Option V → Option Value → Prop
  | some v, some u => RelV v u
  | none, none => True
  | _, _ => False
def KV {κ : Type} : List (κ × V) → List (κ × Value) → Prop := Paired fun (p : κ × V) (q : κ × Value) => p.1 = q.1 ∧ RelV p.2 q.2
def kV : Key → V
  | .inl i => .int i
  | .inr x => .str x
inductive HO where
  | lst (xs : List V)
  | tup (xs : List V)
  | dK (kvs : List (Key × V)) | dT (kvs : List (List Key × V))
  | set (S : Int → Bool) (n : Nat)
  | ins (C dx : Addr) (fs : List (Str × V))
  | own (x : Addr)
  | xd (fs : List (Str × V))
  | met (f x : Addr)
  | rng (lo hi : Int)
  | frz (o : Obj) (u : HO)
  | tbl (ps : Array Value)
  | ext (φ : Heap → Prop)
abbrev Hp := Addr → Option HO
def upd (H : Hp) (a : Addr) (o : HO) : Hp := fun b => if b = a then some o else H b
theorem upd_same {H : Hp} {a : Addr} {o : HO} : upd H a o a = some o := by unfold upd; rw [if_pos rfl]
theorem upd_ne {H : Hp} {a b : Addr} {o : HO} (h : b ≠ a) : upd H a o b = H b := by unfold upd; rw [if_neg h]
theorem ne_of {H : Hp} {a b : Addr} {o u : HO} (h : H a = some o) (h' : H b = some u) (d : o ≠ u) : a ≠ b := by
  intro e; subst e; rw [h] at h'; exact d (Option.some.inj h')
theorem ne_of_none {H : Hp} {a b : Addr} {o : HO} (h : H a = some o) (h' : H b = none) : a ≠ b := by
  intro e; subst e; rw [h] at h'; cases h'
section
variable (P : Program) (w : World)
def ObjOk (H : Hp) (h : Heap) (a : Addr) : HO → Prop
  | .lst xs => xs.length ≤ sizeLine ∧ ∃ (its : List Value) (n : Nat), Vals xs its ∧ h.get? a = some { cls := .type "list", data := .seq its.toArray n }
  | .tup xs => xs.length ≤ sizeLine ∧ ∃ its : List Value, Vals xs its ∧ IsTup h a its.toArray
  | .dK kvs => kvs.length ≤ sizeLine ∧ (a == sysModules) = false ∧ ∃ vs, KV kvs vs ∧ h.DictOf (mixKind P w) a vs
  | .dT kvs => kvs.length ≤ sizeLine ∧ (a == sysModules) = false ∧ ∃ xs : List (List Key × Addr × Value),
      Paired (fun (p : List Key × V) (q : List Key × Addr × Value) => p.1 = q.1 ∧ H q.2.1 = some (.tup (p.1.map kV)) ∧ RelV p.2 q.2.2) kvs xs ∧
      ∃ o es ep, h.get? a = some o ∧ o.ExactDict ∧ o.data = .dict es ep ∧ es.toList = xs.map (entryOfKey (tupleKind (mixKind P w))) ∧ (xs.map (·.1)).Nodup
  | .set S n => h.SetOf (intKind P w) a S n
  | .ins C dx fs => H dx = some (.own a) ∧ fs.length ≤ 1000 ∧ dx ≠ a ∧ h.get? a = some (PySem.W.instObj C dx) ∧
      ∃ mA, h.Ns1 dx mA ∧ (∀ f, RelO (fs.lookup f) (mA f)) ∧ PySem.Within mA (fs.map (·.1))
  | .own _ => ∃ o, h.get? a = some o
  | .xd fs => ∃ mA, h.Ns1 a mA ∧ ∀ f, RelO (fs.lookup f) (mA f)
  | .rng lo hi => ∃ t u v, h.get? a = some { cls := .type "range", data := .fields #[.int lo t, .int hi u, .int 1 v] }
  | .frz o u => h.get? a = some o ∧ ObjOk H h a u
  | .tbl ps => h.get? a = some { cls := .none, data := .fields ps }
  | .met f x => h.get? a = some (PySem.W.methodObj (.ref f) (.ref x))
  | .ext φ => φ h ∧ (∃ o, h.get? a = some o) ∧ ∀ h1 h2 : Heap, φ h1 → (∀ o, h1.get? a = some o → h2.get? a = some o) → φ h2
def HOk (H : Hp) (h : Heap) : Prop := ∀ a o, H a = some o → ObjOk P w H h a o
end
section
variable {P : Program} {w : World} {H H' : Hp} {h h' : Heap} {a : Addr} {o : HO}
theorem ObjOk.lt (x : ObjOk P w H h a o) : a < h.objs.size := by
  cases o with
  | lst xs => obtain ⟨_, _, _, _, e⟩ := x; exact Heap.lt_size e
  | tup xs => obtain ⟨_, _, _, p⟩ := x; exact p.lt
  | dK kvs => obtain ⟨_, _, _, _, o, _, _, e, _⟩ := x; exact Heap.lt_size e
  | dT kvs => obtain ⟨_, _, _, _, o, _, _, e, _⟩ := x; exact Heap.lt_size e
  | set S n => obtain ⟨o, _, _, _, e, _⟩ := x; exact Heap.lt_size e
  | ins C dx fs => obtain ⟨_, _, _, e, _⟩ := x; exact Heap.lt_size e
  | own y => obtain ⟨_, e⟩ := x; exact Heap.lt_size e
  | xd fs => obtain ⟨_, ⟨_, _, _, e, _⟩, _⟩ := x; exact Heap.lt_size e
  | rng lo hi => obtain ⟨_, _, _, e⟩ := x; exact Heap.lt_size e
  | frz ob u => obtain ⟨e, _⟩ := x; exact Heap.lt_size e
  | tbl ps => exact Heap.lt_size (show h.get? a = some _ from x)
  | met f y => exact Heap.lt_size (show h.get? a = some _ from x)
  | ext φ => obtain ⟨_, ⟨_, e⟩, _⟩ := x; exact Heap.lt_size e
theorem Paired.mapP {α β : Type} {F G : α → β → Prop} : ∀ {l₁ : List α} {l₂ : List β}, Paired F l₁ l₂ → (∀ a b, F a b → G a b) → Paired G l₁ l₂
  | _, _, .nil, _ => .nil
  | _, _, .cons r t, f => .cons (f _ _ r) (Paired.mapP t f)
theorem ObjOk.stay (x : ObjOk P w H h a o) (k : ∀ b u, (b = a ∨ H b = some (.own a)) → h.get? b = some u → h'.get? b = some u)
    (ho : ∀ b, H b = some (.own a) → H' b = some (.own a)) (ht : ∀ b xs, H b = some (.tup xs) → H' b = some (.tup xs)) : ObjOk P w H' h' a o := by
  induction o with
  | lst xs => obtain ⟨z, its, n, r, e⟩ := x; exact ⟨z, its, n, r, k _ _ (.inl rfl) e⟩
  | tup xs => obtain ⟨z, its, r, ob, e, c⟩ := x; exact ⟨z, its, r, ob, k _ _ (.inl rfl) e, c⟩
  | dK kvs => obtain ⟨z, y, vs, r, ob, es, ep, e, c⟩ := x; exact ⟨z, y, vs, r, ob, es, ep, k _ _ (.inl rfl) e, c⟩
  | dT kvs =>
    obtain ⟨z, y, xs, r, ob, es, ep, e, c⟩ := x
    exact ⟨z, y, xs, Paired.mapP r fun p q z => ⟨z.1, ht _ _ z.2.1, z.2.2⟩, ob, es, ep, k _ _ (.inl rfl) e, c⟩
  | set S n => obtain ⟨ob, es, ep, t, e, c⟩ := x; exact ⟨ob, es, ep, t, k _ _ (.inl rfl) e, c⟩
  | ins C dx fs =>
    obtain ⟨d, z, ne, e, mA, ⟨od, es, ep, e2, c⟩, r⟩ := x
    exact ⟨ho _ d, z, ne, k _ _ (.inl rfl) e, mA, ⟨od, es, ep, k _ _ (.inr d) e2, c⟩, r⟩
  | own y => obtain ⟨ob, e⟩ := x; exact ⟨ob, k _ _ (.inl rfl) e⟩
  | xd fs => obtain ⟨mA, ⟨od, es, ep, e, c⟩, r⟩ := x; exact ⟨mA, ⟨od, es, ep, k _ _ (.inl rfl) e, c⟩, r⟩
  | rng lo hi => obtain ⟨t, u, v, e⟩ := x; exact ⟨t, u, v, k _ _ (.inl rfl) e⟩
  | frz ob u ih => obtain ⟨e, q⟩ := x; exact ⟨k _ _ (.inl rfl) e, ih q⟩
  | tbl ps =>
    have e : h.get? a = some { cls := .none, data := .fields ps } := x
    show h'.get? a = some { cls := .none, data := .fields ps }
    exact k a _ (.inl rfl) e
  | met f y =>
    have e : h.get? a = some (PySem.W.methodObj (.ref f) (.ref y)) := x
    show h'.get? a = some (PySem.W.methodObj (.ref f) (.ref y))
    exact k a _ (.inl rfl) e
  | ext φ => obtain ⟨p, ⟨o, e⟩, st⟩ := x; exact ⟨st _ _ p fun o q => k _ _ (.inl rfl) q, ⟨o, k _ _ (.inl rfl) e⟩, st⟩
theorem HOk.lt (x : HOk P w H h) (e : H a = some o) : a < h.objs.size := (x a o e).lt
theorem HOk.fresh (x : HOk P w H h) (e : h.objs.size ≤ a) : H a = none := by
  cases q : H a with
  | none => rfl
  | some u => exact absurd (Nat.lt_of_lt_of_le (x.lt q) e) (Nat.lt_irrefl _)
theorem HOk.kept (x : HOk P w H h) (k : ∀ b u, h.get? b = some u → h'.get? b = some u) : HOk P w H h' := fun a o e =>
  (x a o e).stay (fun b u _ q => k b u q) (fun _ q => q) fun _ _ q => q
theorem HOk.laid (x : HOk P w H h) (k : ∀ b u, h.get? b = some u → h'.get? b = some u) (hp : h.objs.size ≤ a) (new : ObjOk P w (upd H a o) h' a o) : HOk P w (upd H a o) h' := fun b u e => by
  have hn := x.fresh hp
  by_cases hb : b = a
  · subst hb; rw [upd_same] at e; cases e; exact new
  · rw [upd_ne hb] at e
    exact (x b u e).stay (fun c v _ q => k c v q) (fun c q => by rw [upd_ne (ne_of_none q hn)]; exact q) fun c xs q => by rw [upd_ne (ne_of_none q hn)]; exact q
end
def Rd (H : Hp) (a : Addr) (u : HO) : Prop := H a = some u ∨ ∃ o, H a = some (.frz o u)
theorem Rd.ok {P : Program} {w : World} {H : Hp} {h : Heap} {a : Addr} {u : HO} (r : Rd H a u) (x : HOk P w H h) : ObjOk P w H h a u := by
  rcases r with r | ⟨o, r⟩
  · exact x a u r
  · obtain ⟨_, q⟩ := x a _ r
    exact q
def Mut : Option HO → Prop
  | some (.lst _) => True
  | some (.dK _) => True
  | some (.dT _) => True
  | some (.set _ _) => True
  | some (.ins _ _ _) => True
  | some (.ext _) => True
  | _ => False
section
variable {P : Program} {w : World} {H : Hp} {h h' : Heap} {x e : Addr} {o' : HO}
theorem HOk.write (ok : HOk P w H h) (mu : Mut (H x)) (he : e = x ∨ H e = some (.own x)) (k : ∀ b u, b ≠ e → h.get? b = some u → h'.get? b = some u) (heo : ∃ u, h'.get? e = some u)
    (new : ObjOk P w (upd H x o') h' x o') : HOk P w (upd H x o') h' := fun b u q => by
  have nown : ∀ c y, H c = some (.own y) → c ≠ x := fun c y r z => by subst z; rw [r] at mu; exact mu
  have ntup : ∀ c xs, H c = some (.tup xs) → c ≠ x := fun c xs r z => by subst z; rw [r] at mu; exact mu
  by_cases hb : b = x
  · subst hb; rw [upd_same] at q; cases q; exact new
  · rw [upd_ne hb] at q
    by_cases hbe : b = e
    · have q' : H b = some (.own x) := by
        rcases he with z | z
        · exact absurd (hbe.trans z) hb
        · rw [hbe]; exact z
      rw [q] at q'; cases q'
      obtain ⟨v, hv⟩ := heo
      exact ⟨v, by rw [hbe]; exact hv⟩
    · refine (ok b u q).stay (fun c v hc r => k c v ?_ r) (fun c r => by rw [upd_ne (nown c b r)]; exact r) fun c xs r => by rw [upd_ne (ntup c xs r)]; exact r
      rcases hc with rfl | hc
      · exact hbe
      · rintro rfl
        rcases he with z | z
        · exact nown c b hc z
        · rw [hc] at z; cases z; exact hb rfl
end
structure Un (fs ex : List Addr) (H H' : Hp) (h h' : Heap) : Prop where
  keep : ∀ b o, h.get? b = some o → H b = none → b ∉ fs → b ∉ ex → h'.get? b = some o
  slot : ∀ b o, h.get? b = some o → H b = none → b ∈ fs → b ∉ ex → ∃ sl, h'.get? b = some { o with slots := sl }
  free : ∀ b o, h.get? b = some o → H b = none → b ∉ ex → H' b = none
  there : ∀ b o, h.get? b = some o → b ∉ ex → ∃ o', h'.get? b = some o'
  tups : ∀ b xs, H b = some (.tup xs) → H' b = some (.tup xs)
  frzs : ∀ b o u, H b = some (.frz o u) → H' b = some (.frz o u)
  tbls : ∀ b ps, H b = some (.tbl ps) → ∃ more, H' b = some (.tbl (ps ++ more))
section
variable {fs fs' ex ex' : List Addr} {H H1 H2 : Hp} {h h1 h2 h' : Heap} {a x e : Addr} {o : HO}
theorem Un.any (u : Un fs ex H H1 h h1) {b : Addr} {ob : Obj} (q : h.get? b = some ob) (n : H b = none) (hx : b ∉ ex) : ∃ sl, h1.get? b = some { ob with slots := sl } := by
  by_cases hb : b ∈ fs
  · exact u.slot b ob q n hb hx
  · exact ⟨ob.slots, u.keep b ob q n hb hx⟩
theorem Un.trans (a : Un fs ex H H1 h h1) (b : Un fs ex H1 H2 h1 h2) : Un fs ex H H2 h h2 where
  keep := fun c ob q n hc hx => b.keep c ob (a.keep c ob q n hc hx) (a.free c ob q n hx) hc hx
  slot := fun c ob q n hc hx => by
    obtain ⟨sl, e1⟩ := a.slot c ob q n hc hx
    obtain ⟨sl', e2⟩ := b.slot c _ e1 (a.free c ob q n hx) hc hx
    exact ⟨sl', e2⟩
  free := fun c ob q n hx => by
    obtain ⟨o', e1⟩ := a.there c ob q hx
    exact b.free c o' e1 (a.free c ob q n hx) hx
  there := fun c ob q hx => by
    obtain ⟨o', e1⟩ := a.there c ob q hx
    exact b.there c o' e1 hx
  tups := fun c xs q => b.tups c xs (a.tups c xs q)
  frzs := fun c ob xs q => b.frzs c ob xs (a.frzs c ob xs q)
  tbls := fun c ps q => by
    obtain ⟨m1, e1⟩ := a.tbls c ps q
    obtain ⟨m2, e2⟩ := b.tbls c _ e1
    exact ⟨m1 ++ m2, by rw [e2, Array.append_assoc]⟩
theorem Un.kept (k : ∀ b u, h.get? b = some u → h'.get? b = some u) : Un fs ex H H h h' :=
  ⟨fun b ob q _ _ _ => k b ob q, fun b ob q _ _ _ => ⟨ob.slots, k b ob q⟩, fun _ _ _ n _ => n, fun b ob q _ => ⟨ob, k b ob q⟩, fun _ _ q => q, fun _ _ _ q => q, fun _ ps q => ⟨#[], by rw [q]; simp⟩⟩
theorem Un.refl : Un fs ex H H h h := Un.kept fun _ _ q => q
theorem Un.laid (k : ∀ b u, h.get? b = some u → h'.get? b = some u) (hp : h.objs.size ≤ a) (hn : H a = none) : Un fs ex H (upd H a o) h h' where
  keep := fun b u q _ _ _ => k b u q
  slot := fun b u q _ _ _ => ⟨u.slots, k b u q⟩
  free := fun b u q n _ => by rw [upd_ne (Nat.ne_of_lt (Nat.lt_of_lt_of_le (Heap.lt_size q) hp))]; exact n
  there := fun b u q _ => ⟨u, k b u q⟩
  tups := fun b xs q => by rw [upd_ne (ne_of_none q hn)]; exact q
  frzs := fun b u xs q => by rw [upd_ne (ne_of_none q hn)]; exact q
  tbls := fun b ps q => ⟨#[], by rw [upd_ne (ne_of_none q hn), q]; simp⟩
theorem Un.write (mu : Mut (H x)) (he : e = x ∨ H e = some (.own x)) (k : ∀ b u, b ≠ e → h.get? b = some u → h'.get? b = some u) (heo : ∃ u, h'.get? e = some u) : Un fs ex H (upd H x o) h h' := by
  have hx : ∀ b, H b = none → b ≠ x := fun b n z => by subst z; rw [n] at mu; exact mu
  have hb : ∀ b, H b = none → b ≠ e := fun b n z => by
    subst z
    rcases he with r | r
    · exact hx b n r
    · rw [n] at r; cases r
  have hm : ∀ b u, H b = some u → ¬ Mut (some u) → b ≠ x := fun b u q nm z => by subst z; rw [q] at mu; exact nm mu
  refine ⟨fun b u q n _ _ => k b u (hb b n) q, fun b u q n _ _ => ⟨u.slots, k b u (hb b n) q⟩, fun b u q n _ => by rw [upd_ne (hx b n)]; exact n, fun b u q _ => ?_,
    fun b xs q => by rw [upd_ne (hm b _ q fun z => z)]; exact q, fun b u xs q => by rw [upd_ne (hm b _ q fun z => z)]; exact q, fun b ps q => ⟨#[], by rw [upd_ne (hm b _ q fun z => z), q]; simp⟩⟩
  by_cases hbe : b = e
  · subst hbe; exact heo
  · exact ⟨u, k b u hbe q⟩
theorem Un.mono (u : Un fs ex H H1 h h1) (hs : ∀ b ∈ fs, b ∈ fs') (hx : ∀ b ∈ ex, b ∈ ex') : Un fs' ex' H H1 h h1 :=
  ⟨fun b ob q n hb he => u.keep b ob q n (fun z => hb (hs b z)) fun z => he (hx b z), fun _ _ q n _ he => u.any q n fun z => he (hx _ z), fun b ob q n he => u.free b ob q n fun z => he (hx b z), fun b ob q he => u.there b ob q fun z => he (hx b z), u.tups, u.frzs, u.tbls⟩
end
def trk (h : Heap) (H : Hp) : List Addr := (List.range h.objs.size).filter fun a => (H a).isSome
def hidT (h : Heap) (H : Hp) : Heap := PySem.W.hideAll h (trk h H)
theorem hidT_size (h : Heap) (H : Hp) : (hidT h H).objs.size = h.objs.size := PySem.W.hideAll_size _ _
theorem hidT_get {h : Heap} {H : Hp} {b : Addr} {o : Obj} (e : h.get? b = some o) (n : H b = none) : (hidT h H).get? b = some o :=
  PySem.W.hideAll_get _ e fun hm => by
    have q : (H b).isSome = true := (List.mem_filter.mp hm).2
    rw [n] at q; simp at q
theorem of_hidT {h : Heap} {H : Hp} {b : Addr} {o : Obj} (e : (hidT h H).get? b = some o) : h.get? b = some o ∧ H b = none := by
  have e' : h.get? b = some o := PySem.W.of_hideAll (trk h H) e
  refine ⟨e', ?_⟩
  cases q : H b with
  | none => rfl
  | some x =>
    have hm : b ∈ trk h H := List.mem_filter.mpr ⟨List.mem_range.mpr (Heap.lt_size e'), by simp [q]⟩
    have z : (hidT h H).get? b = none := PySem.W.hideAll_none (trk h H) hm
    rw [z] at e; cases e
def allNews (g h : Heap) (L : Addr) : List (Addr × Obj) := (List.range h.objs.size).filterMap fun a => if a = L ∨ (g.get? a).isSome = true then none else (h.get? a).map fun o => (a, o)
def rest (g h : Heap) (L d : Addr) : List (Addr × Obj) := (allNews g h L).filter fun p => decide (p.1 ≠ d)
end L2
namespace L2
open PySem PySem.Spec PyProof.Rows
structure Mod (K : PySem.W.Frag) (mg : Str → Option Value) (base : Heap) : Prop where
  kin : K.In base
  glob : base.Ns mainGlobals mg
  blt : ∃ mb, base.Ns builtinsNs mb ∧ ∀ x : Str, x ≠ "__name__" → mb x = bootBuiltins x
  nolimit : base.NoLimit
structure Cx where
  prog : Program
  w : World
  K : PySem.W.Frag
  mg : Str → Option Value
  base : Heap
  A : Around
  N : List Str
  s₀ : Shared
  H₀ : Hp
  env : Env
  outer : List Env
  stack : List Env
  ex : List Addr
  fn : Str → Bool
  calm : Bool
  pn : List (Addr × Obj)
  xe : Value → Shared → Prop
def frs (l : List Env) : List Addr := l.filterMap (·.frame)
abbrev Cx.fs (X : Cx) : List Addr := frs X.outer
def Vis (sc : Scope) (x : Str) : Prop := sc.names.lookup x = some .local ∨ sc.names.lookup x = some .cell ∨ sc.names.lookup x = some .free
def Loc (sc : Scope) (x : Str) : Prop := sc.names.lookup x = some .local ∨ sc.names.lookup x = some .cell
def Look (env : Env) (h : Heap) (m : Str → Option Value) (x : Str) (u : Value) : Prop :=
  (env.kindOf x = some .local ∧ m x = some u) ∨ ((env.kindOf x = some .cell ∨ env.kindOf x = some .free) ∧ ∃ c, env.cells.lookup x = some c ∧ h.IsCell c (some u))
structure Cx.Ok (X : Cx) : Prop where
  mod : Mod X.K X.mg X.base
  kind : X.env.scope.kind = .function
  glob : X.env.globals = mainGlobals
  blt : X.env.builtins = builtinsNs
  above : X.s₀.heap.objs.size ≤ X.env.locals
  inj : ∀ x y c, X.env.cells.lookup x = some c → X.env.cells.lookup y = some c → x = y
  has : ∀ x, (X.env.kindOf x = some .cell ∨ X.env.kindOf x = some .free) → ∃ c, X.env.cells.lookup x = some c
  cab : ∀ x c, X.fn x = true → X.env.cells.lookup x = some c → X.s₀.heap.objs.size ≤ c
  hd : X.calm = true → X.A.handled = none
  frames : X.A.frames = some X.stack
  stk : X.stack = X.outer ∨ (X.stack = X.env :: X.outer ∧ X.env.frame = some X.env.locals)
  exf : ∀ b ∈ X.ex, b ≠ X.env.locals ∧ ∀ x c, X.env.cells.lookup x = some c → c ≠ b
  bs : ∀ b o, X.base.get? b = some o → X.s₀.heap.get? b = some o ∧ X.H₀ b = none
  bsz : X.base.objs.size ≤ X.s₀.heap.objs.size
  noex : ∀ b o, X.base.get? b = some o → b ∉ X.ex
  exfs : ∀ b ∈ X.ex, b ∉ X.fs
  funs : X.s₀.heap.FunFrames X.base X.outer
  frf : ∀ b ∈ X.fs, X.H₀ b = none
structure Inv (X : Cx) (pins : List (Addr × Obj)) (σ : List (Option V)) (H : Hp) (s : Shared) : Prop where
  ok : X.Ok
  os : s.os = X.s₀.os
  bare : AllBare s.gens
  base : Un X.fs X.ex X.H₀ H X.s₀.heap s.heap
  loc : ∃ m, s.heap.Ns X.env.locals m ∧ ∀ (i : Nat) (x : Str) (v : V), X.N[i]? = some x → σ[i]? = some (some v) → Vis X.env.scope x → ∃ u, RelV v u ∧ Look X.env s.heap m x u
  cell : ∀ x c, X.env.cells.lookup x = some c → ∃ v, s.heap.IsCell c v
  free : H X.env.locals = none
  freeC : ∀ x c, X.env.cells.lookup x = some c → H c = none
  pin : ∀ p ∈ X.pn ++ pins, s.heap.get? p.1 = some p.2 ∧ H p.1 = none ∧ p.1 ≠ X.env.locals ∧ p.1 ∉ X.fs ∧ ∀ v, p.2.data ≠ .cell v
  hok : HOk X.prog X.w H s.heap
  len : σ.length = X.N.length
section
variable {X : Cx} {pins : List (Addr × Obj)} {σ : List (Option V)} {H H' : Hp} {s : Shared} {h' : Heap}
theorem Cx.Ok.nofr (ok : X.Ok) {b : Addr} {o : Obj} (e : X.base.get? b = some o) : b ∉ X.fs := fun hb => by
  have := (ok.funs.mem hb).1
  rw [e] at this; cases this
theorem Inv.bs (I : Inv X pins σ H s) : ∀ b o, X.base.get? b = some o → s.heap.get? b = some o ∧ H b = none := fun b o e =>
  ⟨I.base.keep b o (I.ok.bs b o e).1 (I.ok.bs b o e).2 (I.ok.nofr e) (I.ok.noex b o e), I.base.free b o (I.ok.bs b o e).1 (I.ok.bs b o e).2 (I.ok.noex b o e)⟩
theorem Inv.bk (I : Inv X pins σ H s) : ∀ b o, X.base.get? b = some o → s.heap.get? b = some o := fun b o e => (I.bs b o e).1
theorem Inv.mod (I : Inv X pins σ H s) : Mod X.K X.mg X.base := I.ok.mod
theorem Inv.kIn (I : Inv X pins σ H s) : X.K.In s.heap := I.ok.mod.kin.keeps I.bk
theorem Inv.nolimit (I : Inv X pins σ H s) : s.heap.NoLimit := I.ok.mod.nolimit.keeps I.bk
theorem Inv.fr (I : Inv X pins σ H s) : ∃ m, Fr X.base X.env.locals s.heap m :=
  let ⟨m, hn, _⟩ := I.loc
  ⟨m, hn, I.bk, Nat.le_trans I.ok.bsz I.ok.above⟩
theorem Inv.lt (I : Inv X pins σ H s) : X.env.locals < s.heap.objs.size := let ⟨_, hn, _⟩ := I.loc; hn.lt
theorem Inv.sz (I : Inv X pins σ H s) : X.s₀.heap.objs.size ≤ s.heap.objs.size := Nat.le_trans I.ok.above (Nat.le_of_lt I.lt)
theorem Inv.nofs (I : Inv X pins σ H s) {a : Addr} (h : s.heap.objs.size ≤ a) : a ∉ X.fs := fun hb => by
  obtain ⟨_, o, ho, _⟩ := I.ok.funs.mem hb
  exact absurd (Nat.lt_of_lt_of_le (Heap.lt_size ho) (Nat.le_trans I.sz h)) (Nat.lt_irrefl _)
theorem Inv.cne (I : Inv X pins σ H s) : ∀ x c, X.env.cells.lookup x = some c → c ≠ X.env.locals := fun x c e z => by
  obtain ⟨v, o, ho, hd⟩ := I.cell x c e
  obtain ⟨m, ⟨o', es, ep, ho', hd', _⟩, _⟩ := I.loc
  rw [z, ho'] at ho; cases ho; rw [hd'] at hd; cases hd
theorem Inv.funs (I : Inv X pins σ H s) : s.heap.FunFrames X.base X.outer := by
  have all : ∀ (l : List Env), (∀ b ∈ frs l, b ∈ X.fs) → X.s₀.heap.FunFrames X.base l → s.heap.FunFrames X.base l := by
    intro l
    induction l with
    | nil => intro _ _; trivial
    | cons env r ih =>
      intro hs hl
      obtain ⟨hk, ⟨L, o, hf, hn, ho, hd⟩, hr⟩ := hl
      have hL : L ∈ X.fs := hs L (by unfold frs; rw [List.filterMap_cons, hf]; exact List.mem_cons_self)
      obtain ⟨sl, e⟩ := I.base.slot L o ho (I.ok.frf L hL) hL fun z => I.ok.exfs L z hL
      exact ⟨hk, ⟨L, _, hf, hn, e, hd⟩, ih (fun b hb => hs b (by unfold frs; rw [List.filterMap_cons, hf]; exact List.mem_cons_of_mem _ hb)) hr⟩
  exact all X.outer (fun _ hb => hb) I.ok.funs
theorem Inv.stack (I : Inv X pins σ H s) : s.heap.FunFrames X.base X.stack := by
  rcases I.ok.stk with e | ⟨e, hf⟩
  · rw [e]; exact I.funs
  · rw [e]
    obtain ⟨m, hn, _⟩ := I.loc
    refine .cons (by rw [I.ok.kind]; decide) hf hn ?_ I.funs
    exact Heap.get?_none_of_le (Nat.le_trans I.ok.bsz I.ok.above)
theorem Inv.stkSub (I : Inv X pins σ H s) : ∀ b ∈ frs X.stack, b ∈ X.env.locals :: X.fs := fun b hb => by
  rcases I.ok.stk with e | ⟨e, hf⟩
  · rw [e] at hb; exact List.mem_cons_of_mem _ hb
  · rw [e] at hb
    unfold frs at hb
    rw [List.filterMap_cons, hf] at hb
    exact hb
theorem Inv.stkFree (I : Inv X pins σ H s) : ∀ b ∈ frs X.stack, H b = none := fun b hb => by
  rcases List.mem_cons.mp (I.stkSub b hb) with e | hb
  · rw [e]; exact I.free
  · obtain ⟨_, o, ho, _⟩ := I.ok.funs.mem hb
    exact I.base.free b o ho (I.ok.frf b hb) fun z => I.ok.exfs b z hb
theorem Inv.step {g' : Array GenState} {t' : Nat} {d' : Drawn} {ch : List Addr} (I : Inv X pins σ H s)
    (hch : ∀ b ∈ ch, (b ∈ X.ex ∨ X.s₀.heap.objs.size ≤ b) ∧ b ≠ X.env.locals ∧ (∀ x c, X.env.cells.lookup x = some c → c ≠ b) ∧ ∀ p ∈ X.pn ++ pins, p.1 ≠ b)
    (keep : ∀ b o, b ≠ X.env.locals → b ∉ X.fs → b ∉ ch → s.heap.get? b = some o → H b = none → h'.get? b = some o)
    (slot : ∀ b o, b ≠ X.env.locals → b ∈ X.fs → b ∉ ch → s.heap.get? b = some o → H b = none → ∃ sl, h'.get? b = some { o with slots := sl }) (free : ∀ b o, b ∉ ch → s.heap.get? b = some o → H b = none → H' b = none)
    (there : ∀ b o, b ∉ ch → s.heap.get? b = some o → ∃ o', h'.get? b = some o')
    (tups : ∀ b xs, H b = some (.tup xs) → H' b = some (.tup xs)) (frzs : ∀ b o u, H b = some (.frz o u) → H' b = some (.frz o u)) (tbls : ∀ b ps, H b = some (.tbl ps) → ∃ more, H' b = some (.tbl (ps ++ more)))
    (ns : ∀ m, s.heap.Ns X.env.locals m → h'.Ns X.env.locals m) (hok : HOk X.prog X.w H' h') (hg : AllBare g') :
    Inv X pins σ H' { s with heap := h', gens := g', drawn := d', toks := t' } := by
  have neL : ∀ b o, X.s₀.heap.get? b = some o → b ≠ X.env.locals := fun b o e => Nat.ne_of_lt (Nat.lt_of_lt_of_le (Heap.lt_size e) I.ok.above)
  have neC : ∀ b o, X.s₀.heap.get? b = some o → b ∉ X.ex → b ∉ ch := fun b o e hx hb => by
    rcases (hch b hb).1 with z | z
    · exact hx z
    · exact absurd (Nat.lt_of_lt_of_le (Heap.lt_size e) z) (Nat.lt_irrefl _)
  have cellK : ∀ x c, X.env.cells.lookup x = some c → ∀ v, s.heap.IsCell c v → h'.IsCell c v := fun x c e v ⟨o, ho, hd⟩ => by
    have nch : c ∉ ch := fun z => (hch c z).2.2.1 x c e rfl
    by_cases hc : c ∈ X.fs
    · obtain ⟨sl, q⟩ := slot c o (I.cne x c e) hc nch ho (I.freeC x c e)
      exact ⟨_, q, hd⟩
    · exact ⟨o, keep c o (I.cne x c e) hc nch ho (I.freeC x c e), hd⟩
  refine ⟨I.ok, I.os, hg, ⟨fun b o e n hb hx => ?_, fun b o e n hb hx => ?_, fun b o e n hx => ?_, fun b o e hx => ?_, fun b xs e => tups b xs (I.base.tups b xs e), fun b o xs e => frzs b o xs (I.base.frzs b o xs e), fun b ps e => ?_⟩, ?_, fun x c e => ?_, ?_, fun x c e => ?_, fun p hp => ?_, hok, I.len⟩
  · exact keep b o (neL b o e) hb (neC b o e hx) (I.base.keep b o e n hb hx) (I.base.free b o e n hx)
  · obtain ⟨sl, e1⟩ := I.base.slot b o e n hb hx
    obtain ⟨sl', e2⟩ := slot b _ (neL b o e) hb (neC b o e hx) e1 (I.base.free b o e n hx)
    exact ⟨sl', e2⟩
  · obtain ⟨o', e1⟩ := I.base.there b o e hx
    exact free b o' (neC b o e hx) e1 (I.base.free b o e n hx)
  · obtain ⟨o', e1⟩ := I.base.there b o e hx
    exact there b o' (neC b o e hx) e1
  · obtain ⟨m1, e1⟩ := I.base.tbls b ps e
    obtain ⟨m2, e2⟩ := tbls b _ e1
    exact ⟨m1 ++ m2, by rw [e2, Array.append_assoc]⟩
  · obtain ⟨m, hn, hl⟩ := I.loc
    refine ⟨m, ns m hn, fun i x v e1 e2 e3 => ?_⟩
    obtain ⟨u, r, l⟩ := hl i x v e1 e2 e3
    refine ⟨u, r, ?_⟩
    rcases l with l | ⟨k, c, e, z⟩
    · exact .inl l
    · exact .inr ⟨k, c, e, cellK x c e _ z⟩
  · obtain ⟨v, z⟩ := I.cell x c e
    exact ⟨v, cellK x c e v z⟩
  · obtain ⟨m, ⟨o, _, _, ho, _⟩, _⟩ := I.loc
    exact free _ o (fun z => (hch _ z).2.1 rfl) ho I.free
  · obtain ⟨v, o, ho, hd⟩ := I.cell x c e
    exact free c o (fun z => (hch c z).2.2.1 x c e rfl) ho (I.freeC x c e)
  · obtain ⟨e, n, ne, nf, d⟩ := I.pin p hp
    have nch : p.1 ∉ ch := fun z => (hch p.1 z).2.2.2 p hp rfl
    exact ⟨keep p.1 p.2 ne nf nch e n, free p.1 p.2 nch e n, ne, nf, d⟩
theorem Inv.un {t' : Nat} (I : Inv X pins σ H s) (u : Un X.fs [] H H' s.heap h') (hok : HOk X.prog X.w H' h') : Inv X pins σ H' { s with heap := h', toks := t' } := by
  obtain ⟨m, ⟨o, es, ep, ho, r⟩, _⟩ := id I.loc
  obtain ⟨sl, hL⟩ := u.any ho I.free (by simp)
  exact I.step (g' := s.gens) (d' := s.drawn) (ch := []) (fun _ z => nomatch z) (fun b o _ hb _ e n => u.keep b o e n hb (by simp)) (fun b o _ hb _ e n => u.slot b o e n hb (by simp)) (fun b o _ e n => u.free b o e n (by simp)) (fun b o _ e => u.there b o e (by simp)) u.tups u.frzs u.tbls (fun m' hm => by
    obtain ⟨o', es', ep', ho', r'⟩ := hm
    rw [ho] at ho'; cases ho'
    exact ⟨_, es', ep', hL, r'⟩) hok I.bare
theorem Inv.call {g' : Array GenState} {t' : Nat} {d' : Drawn} {ch : List Addr} (I : Inv X pins σ H s) (u : Un (frs X.stack) ch H H' s.heap h') (hok : HOk X.prog X.w H' h') (hg : AllBare g')
    (hch : ∀ b ∈ ch, (b ∈ X.ex ∨ X.s₀.heap.objs.size ≤ b) ∧ b ≠ X.env.locals ∧ (∀ x c, X.env.cells.lookup x = some c → c ≠ b) ∧ ∀ p ∈ X.pn ++ pins, p.1 ≠ b) :
    Inv X pins σ H' { s with heap := h', gens := g', drawn := d', toks := t' } := by
  obtain ⟨m, ⟨o, es, ep, ho, r⟩, _⟩ := id I.loc
  obtain ⟨sl, hL⟩ := u.any ho I.free fun z => (hch _ z).2.1 rfl
  exact I.step (ch := ch) hch (fun b o hL hb hc e n => u.keep b o e n (fun z => (List.mem_cons.mp (I.stkSub b z)).elim hL hb) hc) (fun b o _ _ hc e n => u.any e n hc) (fun b o hc e n => u.free b o e n hc) (fun b o hc e => u.there b o e hc) u.tups u.frzs u.tbls (fun m' hm => by
    obtain ⟨o', es', ep', ho', r'⟩ := hm
    rw [ho] at ho'; cases ho'
    exact ⟨_, es', ep', hL, r'⟩) hok hg
theorem Inv.turned {t' : Nat} {it : Addr} (I : Inv X pins σ H s) (k : ∀ b o, b ≠ it → s.heap.get? b = some o → h'.get? b = some o) (hn : H it = none) (hL : it ≠ X.env.locals)
    (h1 : it ∈ X.ex ∨ X.s₀.heap.objs.size ≤ it) (h2 : ∀ x c, X.env.cells.lookup x = some c → c ≠ it) (h3 : ∀ p ∈ X.pn ++ pins, p.1 ≠ it) : Inv X pins σ H { s with heap := h', toks := t' } := by
  have nit : ∀ b u, H b = some u → b ≠ it := fun b u e z => by rw [z, hn] at e; cases e
  refine I.step (g' := s.gens) (d' := s.drawn) (ch := [it]) (fun b hb => ?_) (fun b o _ _ hc e _ => k b o (fun z => hc (by simp [z])) e) (fun b o _ _ hc e _ => ⟨o.slots, k b o (fun z => hc (by simp [z])) e⟩) (fun _ _ _ _ n => n)
    (fun b o hc e => ⟨o, k b o (fun z => hc (by simp [z])) e⟩) (fun _ _ e => e) (fun _ _ _ e => e) (fun b ps e => ⟨#[], by rw [e]; simp⟩) (fun m hm => ?_) (fun b u e => ?_) I.bare
  · have e : b = it := by simpa using hb
    subst e
    exact ⟨h1, hL, h2, h3⟩
  · obtain ⟨o, es, ep, ho, r⟩ := hm
    exact ⟨o, es, ep, k _ o (Ne.symm hL) ho, r⟩
  · refine (I.hok b u e).stay (fun c v hc q => k c v ?_ q) (fun _ q => q) fun _ _ q => q
    rcases hc with z | z
    · rw [z]; exact nit b u e
    · exact nit c _ z
theorem Inv.tok (I : Inv X pins σ H s) (t : Nat) : Inv X pins σ H { s with toks := t } := I.un (h' := s.heap) (t' := t) Un.refl I.hok
theorem Inv.kept {t' : Nat} (I : Inv X pins σ H s) (k : ∀ b u, s.heap.get? b = some u → h'.get? b = some u) : Inv X pins σ H { s with heap := h', toks := t' } := I.un (Un.kept k) (I.hok.kept k)
theorem Inv.laid {a : Addr} {o : HO} {t' : Nat} (I : Inv X pins σ H s) (k : ∀ b u, s.heap.get? b = some u → h'.get? b = some u) (hp : s.heap.objs.size ≤ a) (new : ObjOk X.prog X.w (upd H a o) h' a o) :
    Inv X pins σ (upd H a o) { s with heap := h', toks := t' } := I.un (Un.laid k hp (I.hok.fresh hp)) (I.hok.laid k hp new)
theorem Inv.write {x e : Addr} {o : HO} {t' : Nat} (I : Inv X pins σ H s) (mu : Mut (H x)) (he : e = x ∨ H e = some (.own x)) (k : ∀ b u, b ≠ e → s.heap.get? b = some u → h'.get? b = some u) (heo : ∃ u, h'.get? e = some u)
    (new : ObjOk X.prog X.w (upd H x o) h' x o) : Inv X pins σ (upd H x o) { s with heap := h', toks := t' } := I.un (Un.write mu he k heo) (I.hok.write mu he k heo new)
theorem Inv.pins_of {pins' : List (Addr × Obj)} (I : Inv X pins σ H s) (h : ∀ p ∈ pins', s.heap.get? p.1 = some p.2 ∧ H p.1 = none ∧ p.1 ≠ X.env.locals ∧ p.1 ∉ X.fs ∧ ∀ v, p.2.data ≠ .cell v) : Inv X pins' σ H s :=
  ⟨I.ok, I.os, I.bare, I.base, I.loc, I.cell, I.free, I.freeC, fun p hp => (List.mem_append.mp hp).elim (fun z => I.pin p (List.mem_append_left _ z)) (h p), I.hok, I.len⟩
theorem nodup_ix {N : List Str} (hN : N.Nodup) {i j : Nat} {x : Str} (a : N[i]? = some x) (b : N[j]? = some x) : i = j := by
  obtain ⟨h1, e1⟩ := List.getElem?_eq_some_iff.mp a
  obtain ⟨h2, e2⟩ := List.getElem?_eq_some_iff.mp b
  exact (List.getElem_inj hN).mp (e1.trans e2.symm)
theorem store_ok2 {M : Model} {A : Around} {E : Value → Shared → Prop} {i : Nat} {x : Str} {v : V} {u : Value} {Q : Unit → Shared → Prop} (I : Inv X pins σ H s) (hN : X.N.Nodup) (hi : X.N[i]? = some x) (hx : Loc X.env.scope x) (r : RelV v u)
    (h : ∀ s', Inv X pins (σ.set i (some v)) H s' → (∃ a, Heap.SameBut a s.heap s'.heap ∧ (a = X.env.locals ∨ X.env.cells.lookup x = some a)) → Q () s') (hf : X.fn x = true ∨ X.env.scope.names.lookup x = some .local := by first | exact .inl rfl | exact .inr rfl | assumption) : wpAny M A (storeName X.env x u) Q E s := by
  obtain ⟨m, hn, hl⟩ := id I.loc
  have hcls : (X.env.scope.kind == .class || (X.env.scope.kind == .module && X.env.locals != X.env.globals)) = false := by rw [I.ok.kind]; rfl
  have hiσ : i < σ.length := by rw [I.len]; exact (List.getElem?_eq_some_iff.mp hi).1
  have cne := I.cne
  have tracked : ∀ {a : Addr} {h' : Heap}, (∃ o, s.heap.get? a = some o ∧ H a = none) → Heap.SameBut a s.heap h' → HOk X.prog X.w H h' := fun {a h'} ha hs b ob e => by
    obtain ⟨_, _, hfree⟩ := ha
    refine (I.hok b ob e).stay (fun c w' hc q => (hs.2 c ?_).trans q) (fun _ q => q) fun _ _ q => q
    rintro rfl
    rcases hc with rfl | hc
    · rw [hfree] at e; cases e
    · rw [hfree] at hc; cases hc
  rcases hx with hk | hk
  · refine wpAny_storeName_local hk hn (fun h' hn' hs => ?_) hcls
    obtain ⟨oL, _, _, hoL, _⟩ := id hn
    refine h _ ⟨I.ok, I.os, I.bare, ⟨fun b o e n hb hx => ?_, fun b o e n hb hx => ?_, I.base.free, fun b o e hx => ?_, I.base.tups, I.base.frzs, I.base.tbls⟩, ⟨_, hn', fun j y v' e1 e2 e3 => ?_⟩, fun y c e => ?_, I.free, I.freeC, fun p hp => ?_, tracked ⟨oL, hoL, I.free⟩ hs, by simpa using I.len⟩ ⟨_, hs, .inl rfl⟩
    · exact (hs.2 b (Nat.ne_of_lt (Nat.lt_of_lt_of_le (Heap.lt_size e) I.ok.above))).trans (I.base.keep b o e n hb hx)
    · obtain ⟨sl, e1⟩ := I.base.slot b o e n hb hx
      exact ⟨sl, (hs.2 b (Nat.ne_of_lt (Nat.lt_of_lt_of_le (Heap.lt_size e) I.ok.above))).trans e1⟩
    · obtain ⟨o', e1⟩ := I.base.there b o e hx
      exact ⟨o', (hs.2 b (Nat.ne_of_lt (Nat.lt_of_lt_of_le (Heap.lt_size e) I.ok.above))).trans e1⟩
    · by_cases hj : j = i
      · subst hj
        rw [hi] at e1; cases e1
        rw [List.getElem?_set_self hiσ] at e2
        cases e2
        exact ⟨u, r, .inl ⟨hk, by simp⟩⟩
      · rw [List.getElem?_set_ne (Ne.symm hj)] at e2
        obtain ⟨u', r', q⟩ := hl j y v' e1 e2 e3
        refine ⟨u', r', ?_⟩
        rcases q with ⟨k, e⟩ | ⟨k, c, e, z⟩
        · refine .inl ⟨k, ?_⟩
          have : y ≠ x := fun e => hj (nodup_ix hN e1 (e ▸ hi))
          simp [this, e]
        · exact .inr ⟨k, c, e, z.sameBut hs (cne y c e)⟩
    · obtain ⟨w', z⟩ := I.cell y c e
      exact ⟨w', z.sameBut hs (cne y c e)⟩
    · obtain ⟨e, n, ne, nf, d⟩ := I.pin p hp
      exact ⟨(hs.2 p.1 ne).trans e, n, ne, nf, d⟩
  · have hfn : X.fn x = true := by
      rcases hf with z | z
      · exact z
      · rw [z] at hk; cases hk
    obtain ⟨c, hc⟩ := I.ok.has x (.inl hk)
    obtain ⟨w', z⟩ := I.cell x c hc
    refine wpAny_storeName_cell I.ok.kind hk hc z (fun h' hc' hs => ?_)
    obtain ⟨oc, hoc, hocd⟩ := id z
    refine h { s with heap := h' } ⟨I.ok, I.os, I.bare, ⟨fun b o e n hb hx => ?_, fun b o e n hb hx => ?_, I.base.free, fun b o e hx => ?_, I.base.tups, I.base.frzs, I.base.tbls⟩, ⟨m, hn.sameBut hs (Ne.symm (cne x c hc)), fun j y v' e1 e2 e3 => ?_⟩, fun y c' e => ?_, I.free, I.freeC, fun p hp => ?_, tracked ⟨oc, hoc, I.freeC x c hc⟩ hs, by simpa using I.len⟩ ⟨c, hs, .inr hc⟩
    · exact (hs.2 b (Nat.ne_of_lt (Nat.lt_of_lt_of_le (Heap.lt_size e) (I.ok.cab x c hfn hc)))).trans (I.base.keep b o e n hb hx)
    · obtain ⟨sl, e1⟩ := I.base.slot b o e n hb hx
      exact ⟨sl, (hs.2 b (Nat.ne_of_lt (Nat.lt_of_lt_of_le (Heap.lt_size e) (I.ok.cab x c hfn hc)))).trans e1⟩
    · obtain ⟨o', e1⟩ := I.base.there b o e hx
      exact ⟨o', (hs.2 b (Nat.ne_of_lt (Nat.lt_of_lt_of_le (Heap.lt_size e) (I.ok.cab x c hfn hc)))).trans e1⟩
    · by_cases hj : j = i
      · subst hj
        rw [hi] at e1; cases e1
        rw [List.getElem?_set_self hiσ] at e2
        cases e2
        exact ⟨u, r, .inr ⟨.inl hk, c, hc, hc'⟩⟩
      · rw [List.getElem?_set_ne (Ne.symm hj)] at e2
        obtain ⟨u', r', q⟩ := hl j y v' e1 e2 e3
        refine ⟨u', r', ?_⟩
        rcases q with q | ⟨k, c', e, z'⟩
        · exact .inl q
        · refine .inr ⟨k, c', e, z'.sameBut hs ?_⟩
          rintro rfl
          exact hj (nodup_ix hN e1 (I.ok.inj _ _ _ e hc ▸ hi))
    · by_cases hcc : c' = c
      · subst hcc; exact ⟨_, hc'⟩
      · obtain ⟨w2, z2⟩ := I.cell y c' e
        exact ⟨w2, z2.sameBut hs hcc⟩
    · obtain ⟨e, n, ne, nf, d⟩ := I.pin p hp
      refine ⟨(hs.2 p.1 ?_).trans e, n, ne, nf, d⟩
      intro q
      rw [q, hoc] at e
      have q' : oc = p.2 := Option.some.inj e
      exact d w' (by rw [← q']; exact hocd)
theorem store_ok {M : Model} {A : Around} {E : Value → Shared → Prop} {i : Nat} {x : Str} {v : V} {u : Value} {Q : Unit → Shared → Prop} (I : Inv X pins σ H s) (hN : X.N.Nodup) (hi : X.N[i]? = some x) (hx : Loc X.env.scope x) (r : RelV v u)
    (h : ∀ s', Inv X pins (σ.set i (some v)) H s' → Q () s') (hf : X.fn x = true ∨ X.env.scope.names.lookup x = some .local := by first | exact .inl rfl | exact .inr rfl | assumption) : wpAny M A (storeName X.env x u) Q E s :=
  store_ok2 I hN hi hx r (fun s' I' _ => h s' I') hf
theorem Inv.call' {s' : Shared} {ch : List Addr} (I : Inv X pins σ H s) (ho : s'.os = s.os) (u : Un (frs X.stack) ch H H' s.heap s'.heap) (hok : HOk X.prog X.w H' s'.heap) (hg : AllBare s'.gens)
    (hch : ∀ b ∈ ch, (b ∈ X.ex ∨ X.s₀.heap.objs.size ≤ b) ∧ b ≠ X.env.locals ∧ (∀ x c, X.env.cells.lookup x = some c → c ≠ b) ∧ ∀ p ∈ X.pn ++ pins, p.1 ≠ b) : Inv X pins σ H' s' := by
  obtain ⟨h', g', d', t', o'⟩ := s'
  have e : o' = s.os := ho
  subst e
  exact I.call (g' := g') (t' := t') (d' := d') u hok hg hch
end
abbrev XK := Value → Option Addr → Hp → Prop
abbrev St := List (Option V)
abbrev VK := V → Hp → Prop
abbrev TE := St → Hp → VK → Prop
abbrev TT := St → Hp → (Bool → Hp → Prop) → Prop
abbrev TA := St → Hp → (List V → Hp → Prop) → Prop
structure Ends where
  nx : St → Hp → Prop
  rt : VK
  bk : St → Hp → Prop := fun _ _ => False
  ct : St → Hp → Prop := fun _ _ => False
abbrev TS := Ends → St → Hp → Prop
def EP (X : Cx) (pins : List (Addr × Obj)) (σ : St) (Q : VK) (u : Value) (s' : Shared) : Prop := ∃ v H', Inv X pins σ H' s' ∧ RelV v u ∧ Q v H'
def TP (X : Cx) (pins : List (Addr × Obj)) (σ : St) (Q : Bool → Hp → Prop) (b : Bool) (s' : Shared) : Prop := ∃ H', Inv X pins σ H' s' ∧ Q b H'
def AP (X : Cx) (pins : List (Addr × Obj)) (σ : St) (Q : List V → Hp → Prop) (us : List Value) (s' : Shared) : Prop := ∃ vs H', Inv X pins σ H' s' ∧ Vals vs us ∧ Q vs H'
def SP (X : Cx) (pins : List (Addr × Obj)) (D : Ends) (f : Flow) (s' : Shared) : Prop :=
  match f with
  | .next => ∃ σ' H', Inv X pins σ' H' s' ∧ D.nx σ' H'
  | .brk => ∃ σ' H', Inv X pins σ' H' s' ∧ D.bk σ' H'
  | .cont => ∃ σ' H', Inv X pins σ' H' s' ∧ D.ct σ' H'
  | .ret u => ∃ v σ' H', Inv X pins σ' H' s' ∧ RelV v u ∧ D.rt v H'
def PE (X : Cx) (e : Expr) (t : TE) : Prop :=
  ∀ (pins : List (Addr × Obj)) (s : Shared) (σ : St) (H : Hp) (Q : VK), Inv X pins σ H s → t σ H Q → wpAny (model X.prog X.w) X.A (eval e X.env) (EP X pins σ Q) X.xe s
def PT (X : Cx) (e : Expr) (t : TT) : Prop :=
  ∀ (pins : List (Addr × Obj)) (s : Shared) (σ : St) (H : Hp) (Q : Bool → Hp → Prop), Inv X pins σ H s → t σ H Q → wpAny (model X.prog X.w) X.A (isTrue e X.env (eval e X.env)) (TP X pins σ Q) X.xe s
def PW (X : Cx) (e : Expr) (t : TT) : Prop :=
  ∀ (whole : Sem Value) (pins : List (Addr × Obj)) (s : Shared) (σ : St) (H : Hp) (Q : Bool → Hp → Prop), Inv X pins σ H s → t σ H Q → wpAny (model X.prog X.w) X.A (isTrue e X.env whole) (TP X pins σ Q) X.xe s
theorem PW.pt {X : Cx} {e : Expr} {t : TT} (h : PW X e t) : PT X e t := h _
def PA (X : Cx) (es : List Expr) (t : TA) : Prop :=
  ∀ (pos : Pos) (pins : List (Addr × Obj)) (s : Shared) (σ : St) (H : Hp) (Q : List V → Hp → Prop), Inv X pins σ H s → t σ H Q → wpAny (model X.prog X.w) X.A (spliced (backTo pos (starEach es X.env))) (AP X pins σ Q) X.xe s
def PS (X : Cx) (st : Stmt) (t : TS) : Prop :=
  ∀ (pins : List (Addr × Obj)) (s : Shared) (σ : St) (H : Hp) (D : Ends), Inv X pins σ H s → t D σ H → wpAny (model X.prog X.w) X.A (exec st X.env) (SP X pins D) X.xe s
def PSs (X : Cx) (st : List Stmt) (t : TS) : Prop :=
  ∀ (pins : List (Addr × Obj)) (s : Shared) (σ : St) (H : Hp) (D : Ends), Inv X pins σ H s → t D σ H → wpAny (model X.prog X.w) X.A (execs st X.env) (SP X pins D) X.xe s
theorem thn {α : Type} {t : Sem α} {Q Q' : α → Shared → Prop} {M : Model} {A : Around} {E : Value → Shared → Prop} {s : Shared} (h : wpAny M A t Q E s) (hQ : ∀ a s, Q a s → Q' a s) : wpAny M A t Q' E s := wpAny_mono h hQ fun _ _ x => x
end L2
namespace L2
open PySem PySem.Spec PyProof.Rows
section
variable {X : Cx}
theorem bin {a b : Expr} {ta tb : TE} (ha : PE X a ta) (hb : PE X b tb) {pins : List (Addr × Obj)} {s : Shared} {σ : St} {H : Hp} {R : V → V → Hp → Prop} (I : Inv X pins σ H s) (h : ta σ H fun x H1 => tb σ H1 fun y H2 => R x y H2)
    {α : Type} {Q : α → Shared → Prop} {f : Value → Value → Sem α}
    (hf : ∀ v u s2 x y H2, Inv X pins σ H2 s2 → RelV x v → RelV y u → R x y H2 → wpAny (model X.prog X.w) X.A (f v u) Q X.xe s2) :
    wpAny (model X.prog X.w) X.A (eval a X.env) (fun v s₁ => wpAny (model X.prog X.w) X.A (eval b X.env) (fun u s₂ => wpAny (model X.prog X.w) X.A (f v u) Q X.xe s₂) X.xe s₁) X.xe s := by
  refine thn (ha pins s σ H _ I h) fun v s1 ⟨x, H1, I1, r1, q1⟩ => ?_
  refine thn (hb pins s1 σ H1 _ I1 q1) fun u s2 ⟨y, H2, I2, r2, q2⟩ => ?_
  exact hf v u s2 x y H2 I2 r1 r2 q2
def tVar (i : Nat) : TE := fun σ H Q => ∃ v, σ[i]? = some (some v) ∧ Q v H
def tC (v : V) : TE := fun _ H Q => Q v H
theorem pe_var {i : Nat} {x : Str} {pos : Pos} (hN : X.N[i]? = some x) (hv : Vis X.env.scope x) (hd : (x == ("__debug__" : Str)) = false := by decide) (hcd : (x == ("__classdict__" : Str)) = false := by decide) : PE X (.Name x pos) (tVar i) := by
  intro pins s σ H Q I h
  obtain ⟨v, e, h⟩ := h
  obtain ⟨m, hn, hl⟩ := I.loc
  obtain ⟨u, r, l⟩ := hl i x v hN e hv
  have fin : EP X pins σ Q u s := ⟨v, H, I, r, h⟩
  rcases l with ⟨hk, hm⟩ | ⟨hk, c, hc, hcell⟩
  · exact wpAny_Name (wpAny_loadName_local I.ok.kind hk hn hm fin) hd
  · rcases hk with hk | hk
    · exact wpAny_Name (wpAny_loadName_cell I.ok.kind hk hc hcell fin) hd
    · exact wpAny_Name (wpAny_loadName_free I.ok.kind hk hc hcell fin hcd) hd
theorem pe_int {i j pos} : PE X (.Constant (.int i) j pos) (tC (.int i)) := fun _ _ _ H _ I h => wpAny_Constant_int ⟨.int i, H, I.tok _, ⟨_, rfl⟩, h⟩
theorem pe_bl {b j pos} : PE X (.Constant (.bool b) j pos) (tC (.bl b)) := fun _ _ _ H _ I h => Constant_bool ⟨.bl b, H, I, rfl, h⟩
theorem pe_non {j pos} : PE X (.Constant .none j pos) (tC .non) := fun _ _ _ H _ I h => Constant_none ⟨.non, H, I, rfl, h⟩
theorem pe_str {x j pos} : PE X (.Constant (.str x) j pos) (tC (.str x)) := fun _ _ _ H _ I h => Calls.Constant_str ⟨.str x, H, I.tok _, ⟨_, rfl⟩, h⟩
def Gl (X : Cx) (x : Str) : Prop := X.env.kindOf x = some .globalImplicit
theorem ld_glob {E : Value → Shared → Prop} {pins : List (Addr × Obj)} {s : Shared} {σ : St} {H : Hp} {x : Str} {u : Value} {pos : Pos} {Q : Value → Shared → Prop} (I : Inv X pins σ H s) (hg : Gl X x) (hm : X.mg x = some u) (h : Q u s)
    (hd : (x == ("__debug__" : Str)) = false := by decide) : wpAny (model X.prog X.w) X.A (eval (.Name x pos) X.env) Q E s :=
  Calls.Name_function_global I.ok.kind hg (Calls.loadGlobal_global (by rw [I.ok.glob]; exact I.mod.glob.keeps I.bk) hm h) hd
theorem ld_blt {E : Value → Shared → Prop} {pins : List (Addr × Obj)} {s : Shared} {σ : St} {H : Hp} {x : Str} {u : Value} {pos : Pos} {Q : Value → Shared → Prop} (I : Inv X pins σ H s) (hg : Gl X x) (hm : X.mg x = none) (hv : bootBuiltins x = some u) (h : Q u s)
    (hn : x ≠ "__name__" := by decide) (hd : (x == ("__debug__" : Str)) = false := by decide) : wpAny (model X.prog X.w) X.A (eval (.Name x pos) X.env) Q E s := by
  obtain ⟨mb, h1, h2⟩ := I.mod.blt
  exact Calls.Name_function_global I.ok.kind hg (Calls.loadGlobal_builtin (by rw [I.ok.glob]; exact I.mod.glob.keeps I.bk) hm (by rw [I.ok.blt]; exact h1.keeps I.bk) ((h2 x hn).trans hv) h) hd
theorem pe_glob {x : Str} {v : V} {u : Value} {pos : Pos} (hg : Gl X x) (hm : X.mg x = some u) (r : RelV v u) (hd : (x == ("__debug__" : Str)) = false := by decide) : PE X (.Name x pos) (tC v) :=
  fun _ _ _ H _ I h => ld_glob I hg hm ⟨v, H, I, r, h⟩ hd
theorem pe_bltn {x : Str} {v : V} {u : Value} {pos : Pos} (hg : Gl X x) (hm : X.mg x = none) (hv : bootBuiltins x = some u) (r : RelV v u) (hn : x ≠ "__name__" := by decide) (hd : (x == ("__debug__" : Str)) = false := by decide) : PE X (.Name x pos) (tC v) :=
  fun _ _ _ H _ I h => ld_blt I hg hm hv ⟨v, H, I, r, h⟩ hn hd
variable {a b : Expr} {ta tb : TE} {pos : Pos}
def PC (X : Cx) (op : CmpOp) (a b : Expr) (t : TE) : Prop :=
  ∀ (pins : List (Addr × Obj)) (s : Shared) (σ : St) (H : Hp) (Q : VK), Inv X pins σ H s → t σ H Q →
    wpAny (model X.prog X.w) X.A (eval a X.env) (fun v s₁ => wpAny (model X.prog X.w) X.A (eval b X.env) (fun u s₂ => wpAny (model X.prog X.w) X.A (compareOp op v u) (EP X pins σ Q) X.xe s₂) X.xe s₁) X.xe s
theorem nobehind (b : Expr) {op : CmpOp} (h : op ≠ .In) (h2 : op ≠ .NotIn) : behindInMarks op b = false := by
  have e1 : (op == CmpOp.In) = false := by cases op <;> first | rfl | exact absurd rfl h
  have e2 : (op == CmpOp.NotIn) = false := by cases op <;> first | rfl | exact absurd rfl h2
  cases b <;> simp [behindInMarks, e1, e2]
def tB (t : TE) : TT := fun σ H Q => t σ H fun x H1 => ∃ c, x = .bl c ∧ Q c H1
theorem pt_cmp {op : CmpOp} {t : TE} (h : PC X op a b t) (h1 : behindInMarks op b = false := by first | exact nobehind _ (by decide) (by decide) | rfl) : PT X (.Compare a [op] [b] pos) (tB t) := by
  intro pins s σ H Q I hw
  refine wpAny_isTrue_Compare1 (thn (h pins s σ H _ I hw) fun v s1 h1 => thn h1 fun u s2 h2 => thn h2 fun c s3 ⟨x, H1, I1, r1, q1⟩ => ?_) h1
  obtain ⟨d, rfl, q⟩ := q1
  cases r1
  exact wpAny_truthy_bool ⟨H1, I1, q⟩
theorem pt_val {e : Expr} {t : TE} (h : PE X e t) (he : ∀ whole, isTrue e X.env whole = (do let v ← whole; standAt e.pos; holding [v] (truthy v)) := by intro _; rfl) : PT X e (tB t) := by
  intro pins s σ H Q I hw
  refine isTrue_plain (thn (h pins s σ H _ I hw) fun v s1 ⟨x, H1, I1, r1, q1⟩ => ?_) (he _)
  obtain ⟨d, rfl, q⟩ := q1
  cases r1
  exact wpAny_truthy_bool ⟨H1, I1, q⟩
variable {tA tB' : TT} {rest : List Expr}
def tAnd (t u : TT) : TT := fun σ H Q => t σ H fun c H1 => if c = true then u σ H1 Q else Q false H1
def tOr (t u : TT) : TT := fun σ H Q => t σ H fun c H1 => if c = true then Q true H1 else u σ H1 Q
def tNot (t : TT) : TT := fun σ H Q => t σ H fun c H1 => Q (!c) H1
theorem pw_and1 (ha : PT X a tA) : PW X (.BoolOp .And [a] pos) tA := by
  intro wh pins s σ H Q I h
  refine isTrue_and (thn (ha pins s σ H Q I h) fun c s1 e => ?_)
  cases c with
  | true => exact isTrue_and_nil e
  | false => exact e
theorem pw_or1 (ha : PT X a tA) : PW X (.BoolOp .Or [a] pos) tA := by
  intro wh pins s σ H Q I h
  refine isTrue_or (thn (ha pins s σ H Q I h) fun c s1 e => ?_)
  cases c with
  | false => exact isTrue_or_nil e
  | true => exact e
theorem pw_and (ha : PT X a tA) (hb : PW X (.BoolOp .And (b :: rest) pos) tB') : PW X (.BoolOp .And (a :: b :: rest) pos) (tAnd tA tB') := by
  intro wh pins s σ H Q I h
  refine isTrue_and (thn (ha pins s σ H _ I h) fun c s1 ⟨H1, I1, q1⟩ => ?_)
  cases c with
  | true => exact hb wh pins s1 σ H1 Q I1 q1
  | false => exact ⟨H1, I1, q1⟩
theorem pw_or (ha : PT X a tA) (hb : PW X (.BoolOp .Or (b :: rest) pos) tB') : PW X (.BoolOp .Or (a :: b :: rest) pos) (tOr tA tB') := by
  intro wh pins s σ H Q I h
  refine isTrue_or (thn (ha pins s σ H _ I h) fun c s1 ⟨H1, I1, q1⟩ => ?_)
  cases c with
  | true => exact ⟨H1, I1, q1⟩
  | false => exact hb wh pins s1 σ H1 Q I1 q1
theorem pt_not (ha : PT X a tA) : PT X (.UnaryOp .Not a pos) (tNot tA) := by
  intro pins s σ H Q I h
  exact isTrue_not (ha pins s σ H (fun c H1 => Q (!c) H1) I h)
def tAndV (ta tb : TE) : TE := fun σ H Q => ta σ H fun x H1 => ∃ c, x = .bl c ∧ if c = true then tb σ H1 Q else Q (.bl false) H1
def tNotV (ta : TE) : TE := fun σ H Q => ta σ H fun x H1 => ∃ c, x = .bl c ∧ Q (.bl (!c)) H1
theorem pe_one {op} {t : TE} (h : PE X a t) : PE X (.BoolOp op [a] pos) t := fun pins s σ H Q I hw => BoolOp_one (h pins s σ H Q I hw)
theorem pe_and (ha : PE X a ta) (hb : PE X (.BoolOp .And (b :: rest) pos) tb) : PE X (.BoolOp .And (a :: b :: rest) pos) (tAndV ta tb) := by
  intro pins s σ H Q I h
  refine BoolOp_and (thn (ha pins s σ H _ I h) fun v s1 ⟨x, H1, I1, r1, q1⟩ => ?_)
  obtain ⟨c, rfl, q1⟩ := q1
  cases r1
  refine wpAny_truthy_bool ?_
  cases c with
  | true => exact hb pins s1 σ H1 Q I1 q1
  | false => exact ⟨.bl false, H1, I1, rfl, q1⟩
theorem pe_not (ha : PE X a ta) : PE X (.UnaryOp .Not a pos) (tNotV ta) := by
  intro pins s σ H Q I h
  refine UnaryOp_ (thn (ha pins s σ H _ I h) fun v s1 ⟨x, H1, I1, r1, q1⟩ => ?_)
  obtain ⟨c, rfl, q1⟩ := q1
  cases r1
  exact not_of (wpAny_truthy_bool ⟨.bl (!c), H1, I1, rfl, q1⟩)
end
end L2
namespace L2
open PySem PySem.Spec PyProof.Rows
def SqL (K : PySem.W.Frag) (H : Hp) (a : Addr) (xs : List V) : Prop :=
  Rd H a (.lst xs) ∨
    ∃ (o : Obj) (its : Array Value) (n : Nat), K.lookup a = some o ∧ o.cls = .type "list" ∧ o.dict = none ∧ o.data = .seq its n ∧ its.size ≤ sizeLine ∧ Vals xs its.toList
def SqT (K : PySem.W.Frag) (H : Hp) (a : Addr) (xs : List V) : Prop :=
  Rd H a (.tup xs) ∨
    ∃ (o : Obj) (its : Array Value) (n : Nat), K.lookup a = some o ∧ o.cls = .type "tuple" ∧ o.data = .seq its n ∧ its.size ≤ sizeLine ∧ Vals xs its.toList
def absV : Value → Option V
  | .none => some .non
  | .bool b => some (.bl b)
  | .int i _ => some (.int i)
  | .str x _ => some (.str x)
  | .bytes b _ => some (.byt b)
  | .float b _ => some (.flt b)
  | .ref a => some (.ref a)
  | .type n => some (.ty n)
  | _ => none
theorem RelV.abs {x : V} {u : Value} (r : RelV x u) : absV u = some x := by
  cases x with
  | non => cases r; rfl
  | bl _ => cases r; rfl
  | int _ => obtain ⟨t, rfl⟩ := r; rfl
  | str _ => obtain ⟨t, rfl⟩ := r; rfl
  | byt _ => obtain ⟨t, rfl⟩ := r; rfl
  | flt _ => obtain ⟨t, rfl⟩ := r; rfl
  | ref _ => cases r; rfl
  | ty _ => cases r; rfl
theorem RelV.inj {x y : V} {u : Value} (r : RelV x u) (q : RelV y u) : x = y := Option.some.inj (r.abs.symm.trans q.abs)
theorem Vals.inj : ∀ {xs ys : List V} {us : List Value}, Vals xs us → Vals ys us → xs = ys
  | _, _, _, .nil, .nil => rfl
  | _, _, _, .cons r t, .cons r' t' => by rw [r.inj r', Vals.inj t t']
section
variable {X : Cx} {pins : List (Addr × Obj)} {σ : St} {H : Hp} {s : Shared} {a : Addr} {xs ys : List V}
theorem SqL.of {K : PySem.W.Frag} (h : H a = some (.lst xs)) : SqL K H a xs := .inl (.inl h)
theorem SqT.of {K : PySem.W.Frag} (h : H a = some (.tup xs)) : SqT K H a xs := .inl (.inl h)
theorem Inv.list (I : Inv X pins σ H s) (h : SqL X.K H a xs) : ∃ its : List Value, Vals xs its ∧ PlainL s.heap a its.toArray ∧ xs.length ≤ sizeLine := by
  rcases h with h | ⟨o, its, n, hk, hc, hd, hs, hz, r⟩
  · obtain ⟨z, its, n, r, e⟩ := h.ok I.hok
    exact ⟨its, r, ⟨_, n, e, rfl, rfl, rfl⟩, z⟩
  · refine ⟨its.toList, r, ⟨o, n, I.kIn a o hk, hc, hd, by simpa using hs⟩, ?_⟩
    have e := r.length
    simp only [Array.length_toList] at e
    omega
theorem Inv.tuple (I : Inv X pins σ H s) (h : SqT X.K H a xs) : ∃ its : List Value, Vals xs its ∧ IsTup s.heap a its.toArray ∧ xs.length ≤ sizeLine := by
  rcases h with h | ⟨o, its, n, hk, hc, hs, hz, r⟩
  · obtain ⟨z, its, r, p⟩ := h.ok I.hok
    exact ⟨its, r, p, z⟩
  · refine ⟨its.toList, r, ⟨o, I.kIn a o hk, hc, n, by simpa using hs⟩, ?_⟩
    have e := r.length
    simp only [Array.length_toList] at e
    omega
theorem Inv.list_inj (I : Inv X pins σ H s) (h : SqL X.K H a xs) (h' : SqL X.K H a ys) : xs = ys := by
  obtain ⟨its, r, ⟨o, n, e, _, _, d⟩, _⟩ := I.list h
  obtain ⟨its', r', ⟨o', n', e', _, _, d'⟩, _⟩ := I.list h'
  rw [e] at e'; cases e'
  rw [d] at d'
  injection d' with d1 _
  have : its = its' := by simpa using congrArg Array.toList d1
  subst this
  exact r.inj r'
theorem Inv.tuple_inj (I : Inv X pins σ H s) (h : SqT X.K H a xs) (h' : SqT X.K H a ys) : xs = ys := by
  obtain ⟨its, r, ⟨o, e, _, n, d⟩, _⟩ := I.tuple h
  obtain ⟨its', r', ⟨o', e', _, n', d'⟩, _⟩ := I.tuple h'
  rw [e] at e'; cases e'
  rw [d] at d'
  injection d' with d1 _
  have : its = its' := by simpa using congrArg Array.toList d1
  subst this
  exact r.inj r'
end
abbrev Cx.wish (X : Cx) (E : Value → Shared → Prop) : Cx := { X with xe := E }
abbrev Cx.nox (X : Cx) : Cx := X.wish fun _ _ => False
theorem Cx.Ok.wish {X : Cx} (ok : X.Ok) (E : Value → Shared → Prop) : (X.wish E).Ok :=
  ⟨ok.mod, ok.kind, ok.glob, ok.blt, ok.above, ok.inj, ok.has, ok.cab, ok.hd, ok.frames, ok.stk, ok.exf, ok.bs, ok.bsz, ok.noex, ok.exfs, ok.funs, ok.frf⟩
theorem Cx.Ok.unwish {X : Cx} {E : Value → Shared → Prop} (ok : (X.wish E).Ok) : X.Ok :=
  ⟨ok.mod, ok.kind, ok.glob, ok.blt, ok.above, ok.inj, ok.has, ok.cab, ok.hd, ok.frames, ok.stk, ok.exf, ok.bs, ok.bsz, ok.noex, ok.exfs, ok.funs, ok.frf⟩
section
variable {X : Cx} {pins : List (Addr × Obj)} {σ : St} {H : Hp} {s : Shared} {E : Value → Shared → Prop}
theorem Inv.wish (I : Inv X pins σ H s) (E : Value → Shared → Prop) : Inv (X.wish E) pins σ H s := ⟨I.ok.wish E, I.os, I.bare, I.base, I.loc, I.cell, I.free, I.freeC, I.pin, I.hok, I.len⟩
theorem Inv.unwish (I : Inv (X.wish E) pins σ H s) : Inv X pins σ H s := ⟨I.ok.unwish, I.os, I.bare, I.base, I.loc, I.cell, I.free, I.freeC, I.pin, I.hok, I.len⟩
theorem SP.unwish {D : Ends} {f : Flow} {s' : Shared} (h : SP (X.wish E) pins D f s') : SP X pins D f s' := by
  cases f with
  | next => obtain ⟨σ', H', I, q⟩ := h; exact ⟨σ', H', I.unwish, q⟩
  | brk => obtain ⟨σ', H', I, q⟩ := h; exact ⟨σ', H', I.unwish, q⟩
  | cont => obtain ⟨σ', H', I, q⟩ := h; exact ⟨σ', H', I.unwish, q⟩
  | ret u => obtain ⟨v, σ', H', I, r, q⟩ := h; exact ⟨v, σ', H', I.unwish, r, q⟩
theorem PT.nox {e : Expr} {t : TT} (h : PT X.nox e t) : PT X e t := fun pins s σ H Q I hw =>
  wpAny_mono (h pins s σ H Q (I.wish _) hw) (fun _ _ ⟨H', I', q⟩ => ⟨H', I'.unwish, q⟩) fun _ _ z => False.elim z
theorem PSs.nox {st : List Stmt} {t : TS} (h : PSs X.nox st t) : PSs X st t := fun pins s σ H D I hw =>
  wpAny_mono (h pins s σ H D (I.wish _) hw) (fun _ _ q => q.unwish) fun _ _ z => False.elim z
end
section
variable {X : Cx} {st : Stmt} {rest : List Stmt} {t u : TS} {e : Expr} {te : TE} {pos : Pos}
def tNext : TS := fun D σ H => D.nx σ H
def tSeq (t u : TS) : TS := fun D σ H => t { D with nx := u D } σ H
theorem pss_nil : PSs X [] tNext := fun _ _ σ H _ I h => wpAny_execs_nil ⟨σ, H, I, h⟩
theorem pss_cons (h1 : PS X st t) (h2 : PSs X rest u) : PSs X (st :: rest) (tSeq t u) := by
  intro pins s σ H D I h
  refine wpAny_execs_cons (thn (h1 pins s σ H { D with nx := u D } I h) fun f s1 q => ?_)
  cases f with
  | next =>
    obtain ⟨σ', H', I', q⟩ := q
    exact h2 pins s1 σ' H' D I' q
  | ret v => exact q
  | brk => exact q
  | cont => exact q
theorem pss_one (h1 : PS X st t) : PSs X [st] t := by
  intro pins s σ H D I h
  refine wpAny_execs_cons (thn (h1 pins s σ H D I h) fun f s1 q => ?_)
  cases f with
  | next => exact wpAny_execs_nil q
  | ret v => exact q
  | brk => exact q
  | cont => exact q
theorem Inv.quiet {pins : List (Addr × Obj)} {σ : St} {H : Hp} {s : Shared} (I : Inv X pins σ H s) : interactive X.env = false := by simp [interactive, I.ok.kind]
def tDrop (te : TE) : TS := fun D σ H => te σ H fun _ H1 => D.nx σ H1
theorem ps_expr (he : PE X e te) (hs : swapsWith e none pos.line X.env = pure false := by rfl) : PS X (.Expr e pos) (tDrop te) := by
  intro pins s σ H D I h
  exact wpAny_Expr_any (thn (he pins s σ H _ I h) fun v s1 ⟨x, H1, I1, r1, q1⟩ => ⟨σ, H1, I1, q1⟩) I.quiet hs
def tRet (te : TE) : TS := fun D σ H => te σ H D.rt
theorem ps_ret (he : PE X e te) : PS X (.Return (some e) pos) (tRet te) := by
  intro pins s σ H D I h
  exact wpAny_Return_some (thn (he pins s σ H _ I h) fun v s1 ⟨x, H1, I1, r1, q1⟩ => ⟨x, σ, H1, I1, r1, q1⟩)
def tIfS (c : TT) (t u : TS) : TS := fun D σ H => c σ H fun b H1 => if b = true then t D σ H1 else u D σ H1
theorem ps_if {c : Expr} {a b : List Stmt} {tc : TT} (hc : PT X c tc) (ha : PSs X a t) (hb : PSs X b u) : PS X (.If c a b pos) (tIfS tc t u) := by
  intro pins s σ H D I h
  refine wpAny_If (thn (hc pins s σ H _ I h) fun d s1 ⟨H1, I1, q1⟩ => ?_)
  cases d with
  | true => exact ha pins s1 σ H1 D I1 q1
  | false => exact hb pins s1 σ H1 D I1 q1
def tNever : TS := fun _ _ _ => False
theorem pss_never {sts : List Stmt} : PSs X sts tNever := fun _ _ _ _ _ _ h => h.elim
end
abbrev TG := V → St → Hp → (St → Hp → Prop) → Prop
abbrev TGs := List V → St → Hp → (St → Hp → Prop) → Prop
def PG (X : Cx) (target : Expr) (t : TG) : Prop :=
  ∀ (pins : List (Addr × Obj)) (s : Shared) (σ : St) (H : Hp) (v : V) (u : Value) (Q : St → Hp → Prop), Inv X pins σ H s → RelV v u → t v σ H Q →
    wpAny (model X.prog X.w) X.A (assign target X.env u) (fun _ s' => ∃ σ' H', Inv X pins σ' H' s' ∧ Q σ' H') X.xe s
def PGs (X : Cx) (ts : List Expr) (t : TGs) : Prop :=
  ∀ (pins : List (Addr × Obj)) (s : Shared) (σ : St) (H : Hp) (vs : List V) (us : List Value) (Q : St → Hp → Prop), Inv X pins σ H s → Vals vs us → t vs σ H Q →
    wpAny (model X.prog X.w) X.A (assignInOrder ((assignEach ts X.env).map (·.2)) us) (fun _ s' => ∃ σ' H', Inv X pins σ' H' s' ∧ Q σ' H') X.xe s
abbrev TSet := V → V → V → Hp → (Hp → Prop) → Prop
def PSet (X : Cx) (t : TSet) : Prop :=
  ∀ (pins : List (Addr × Obj)) (s : Shared) (σ : St) (H : Hp) (o i v : V) (ov iv u : Value) (Q : Hp → Prop), Inv X pins σ H s → RelV o ov → RelV i iv → RelV v u → t o i v H Q →
    wpAny (model X.prog X.w) X.A (setItem ov iv u) (fun _ s' => ∃ H', Inv X pins σ H' s' ∧ Q H') X.xe s
abbrev TIp := V → V → Hp → VK → Prop
def PIp (X : Cx) (op : Operator) (t : TIp) : Prop :=
  ∀ (pins : List (Addr × Obj)) (s : Shared) (σ : St) (H : Hp) (x y : V) (v u : Value) (Q : VK), Inv X pins σ H s → RelV x v → RelV y u → t x y H Q →
    wpAny (model X.prog X.w) X.A (inplaceOp op v u) (EP X pins σ Q) X.xe s
section
variable {X : Cx} {pos : Pos}
def gName (i : Nat) : TG := fun v σ H Q => Q (σ.set i (some v)) H
theorem pg_name {i : Nat} {x : Str} (hN : X.N.Nodup) (hi : X.N[i]? = some x) (hx : Loc X.env.scope x) (hf : X.fn x = true ∨ X.env.scope.names.lookup x = some .local := by first | exact .inl rfl | exact .inr rfl | assumption) : PG X (.Name x pos) (gName i) := by
  intro pins s σ H v u Q I r h
  exact wpAny_assign_Name (store_ok I hN hi hx r (fun s' I' => ⟨_, H, I', h⟩) hf)
def gNil : TGs := fun vs σ H Q => vs = [] ∧ Q σ H
def gCons (t : TG) (u : TGs) : TGs := fun vs σ H Q => ∃ v r, vs = v :: r ∧ t v σ H fun σ' H' => u r σ' H' Q
theorem pgs_nil : PGs X [] gNil := by
  intro pins s σ H vs us Q I r h
  obtain ⟨e, h⟩ := h
  subst e
  cases r
  exact assignInOrder_nil ⟨σ, H, I, h⟩
theorem pgs_cons {e : Expr} {es : List Expr} {t : TG} {u : TGs} (h1 : PG X e t) (h2 : PGs X es u)
    (hs : (assignEach (e :: es) X.env).map (·.2) = assign e X.env :: (assignEach es X.env).map (·.2) := by rfl) : PGs X (e :: es) (gCons t u) := by
  intro pins s σ H vs us Q I r h
  obtain ⟨v, vr, e1, h⟩ := h
  subst e1
  cases r with
  | cons r rr =>
    rw [hs]
    refine assignInOrder_cons (thn (h1 pins s σ H _ _ _ I r h) fun _ s1 ⟨σ1, H1, I1, q1⟩ => ?_)
    exact h2 pins s1 σ1 H1 _ _ Q I1 rr q1
def gTup (K : PySem.W.Frag) (n : Nat) (t : TGs) : TG := fun v σ H Q => ∃ a xs, v = .ref a ∧ SqT K H a xs ∧ xs.length = n ∧ t xs σ H Q
theorem pg_tup {es : List Expr} {k : Nat} {t : TGs} {n : Nat} (hc : X.calm = true) (h : PGs X es t)
    (hn : (assignEach es X.env).length = n := by rfl) (hst : (assignEach es X.env).findIdx? (·.1) = none := by rfl) : PG X (.Tuple es k pos) (gTup X.K n t) := by
  intro pins s σ H v u Q I r hw
  obtain ⟨a, xs, e1, hq, hl, hw⟩ := hw
  subst e1
  cases r
  obtain ⟨its, rv, ht, hz⟩ := I.tuple hq
  refine assign_Tuple_tuple (I.ok.hd hc) ht (by simp [hn, ← hl, rv.length]) hst fun h' hx => ?_
  have I1 : Inv X pins σ H { s with heap := h' } := I.kept (t' := s.toks) fun b o e => hx b o (Nat.ne_of_lt (Heap.lt_size e)) e
  exact h pins _ σ H xs _ Q I1 (by simpa using rv) hw
def tAsg (te : TE) (g : TG) : TS := fun D σ H => te σ H fun x H1 => g x σ H1 D.nx
theorem ps_asg {tg e : Expr} {te : TE} {g : TG} (he : PE X e te) (hg : PG X tg g) (hs : swapsWithSole [tg] e pos.line X.env = pure false := by rfl) (hw : swappedStores [tg] e X.env = pure none := by rfl)
    (h1 : (assignEach [tg] X.env).map (·.2) = [assign tg X.env] := by rfl) : PS X (.Assign [tg] e pos) (tAsg te g) := by
  intro pins s σ H D I h
  refine wpAny_Assign_stores (thn (he pins s σ H _ I h) fun v s1 ⟨x, H1, I1, r1, q1⟩ => ?_) hs hw
  rw [h1]
  exact thn (hg pins s1 σ H1 x v _ I1 r1 q1) fun _ s2 q => q
theorem ps_set {i : Nat} {x : Str} {e : Expr} {te : TE} {pos' : Pos} (hN : X.N.Nodup) (hi : X.N[i]? = some x) (hx : Loc X.env.scope x) (he : PE X e te) (hs : swapsWith e (some (.Name x pos')) pos.line X.env = pure false := by rfl) (hf : X.fn x = true ∨ X.env.scope.names.lookup x = some .local := by first | exact .inl rfl | exact .inr rfl | assumption) :
    PS X (.Assign [.Name x pos'] e pos) (tAsg te (gName i)) := by
  intro pins s σ H D I h
  refine wpAny_Assign_Name (thn (he pins s σ H _ I h) fun v s1 ⟨y, H1, I1, r1, q1⟩ => ?_) hs
  exact store_ok I1 hN hi hx r1 (fun s2 I2 => ⟨_, H1, I2, q1⟩) hf
def tAugS (to ti te : TE) (tget : V → V → Hp → VK → Prop) (tip : TIp) (tset : TSet) : TS := fun D σ H => to σ H fun o H1 => ti σ H1 fun i H2 => tget o i H2 fun x H3 => te σ H3 fun y H4 => tip x y H4 fun z H5 => tset o i z H5 fun H6 => D.nx σ H6
def PGet (X : Cx) (t : V → V → Hp → VK → Prop) : Prop :=
  ∀ (pins : List (Addr × Obj)) (s : Shared) (σ : St) (H : Hp) (o i : V) (ov iv : Value) (Q : VK), Inv X pins σ H s → RelV o ov → RelV i iv → t o i H Q →
    wpAny (model X.prog X.w) X.A (getItem ov iv) (EP X pins σ Q) X.xe s
theorem ps_augS {o i e : Expr} {to ti te : TE} {tget : V → V → Hp → VK → Prop} {tip : TIp} {tset : TSet} {op : Operator} {tpos : Pos} (ho : PE X o to) (hi : PE X i ti) (hg : PGet X tget) (he : PE X e te) (hp : PIp X op tip) (hs : PSet X tset)
    (ha : ∀ ov iv new, augStore i ov iv new = (do holding [new, ov, iv] (setItem ov iv new); release [new, ov, iv] []; pure .next) := by intros; rfl) : PS X (.AugAssign (.Subscript o i tpos) op e pos) (tAugS to ti te tget tip tset) := by
  intro pins s σ H D I h
  refine wpAny_AugAssign_SubscriptAny (thn (ho pins s σ H _ I h) fun ov s1 ⟨x1, H1, I1, r1, q1⟩ => ?_) ha
  refine thn (hi pins s1 σ H1 _ I1 q1) fun iv s2 ⟨x2, H2, I2, r2, q2⟩ => ?_
  refine thn (hg pins s2 σ H2 x1 x2 ov iv _ I2 r1 r2 q2) fun old s3 ⟨x3, H3, I3, r3, q3⟩ => ?_
  refine thn (he pins s3 σ H3 _ I3 q3) fun v s4 ⟨x4, H4, I4, r4, q4⟩ => ?_
  refine thn (hp pins s4 σ H4 x3 x4 old v _ I4 r3 r4 q4) fun new s5 ⟨x5, H5, I5, r5, q5⟩ => ?_
  exact thn (hs pins s5 σ H5 x1 x2 x5 ov iv new _ I5 r1 r2 r5 q5) fun _ s6 ⟨H6, I6, q6⟩ => ⟨σ, H6, I6, q6⟩
def ipI (f : Int → Int → Int) : TIp := fun x y H Q => ∃ i j, x = .int i ∧ y = .int j ∧ Q (.int (f i j)) H
theorem ip_add : PIp X .Add (ipI fun i j => i + j) := by
  intro pins s σ H x y v u Q I r1 r2 h
  obtain ⟨i, j, e1, e2, q⟩ := h
  subst e1; subst e2
  obtain ⟨t, rfl⟩ := r1
  obtain ⟨t', rfl⟩ := r2
  exact iadd_int ⟨.int _, H, I.tok _, ⟨_, rfl⟩, q⟩
end
structure It where
  go : Nat → Hp → Prop
  yld : Nat → Hp → V → Hp → Prop
  stop : Nat → Hp → Prop
def FpOk (X : Cx) (pins : List (Addr × Obj)) (H : Hp) (b : Addr) : Prop :=
  H b = none ∧ b ≠ X.env.locals ∧ b ∉ X.fs ∧ (b ∈ X.ex ∨ X.s₀.heap.objs.size ≤ b) ∧ (∀ x c, X.env.cells.lookup x = some c → c ≠ b) ∧ ∀ p ∈ X.pn ++ pins, p.1 ≠ b
theorem Inv.fpOk {X : Cx} {pins : List (Addr × Obj)} {σ : St} {H H' : Hp} {s : Shared} {b : Addr} (I : Inv X pins σ H s) (hb : s.heap.objs.size ≤ b) (hn : H' b = none) : FpOk X pins H' b := by
  refine ⟨hn, Nat.ne_of_gt (Nat.lt_of_lt_of_le I.lt hb), I.nofs hb, .inr (Nat.le_trans I.sz hb), fun x c e z => ?_, fun p hp z => ?_⟩
  · obtain ⟨v, q⟩ := I.cell x c e
    exact absurd (Nat.lt_of_lt_of_le q.lt (by rw [z]; exact hb)) (Nat.lt_irrefl _)
  · exact absurd (Nat.lt_of_lt_of_le (Heap.lt_size (I.pin p hp).1) (by rw [z]; exact hb)) (Nat.lt_irrefl _)
structure Turn (P : Program) (w : World) (K : PySem.W.Frag) (tg : Expr) (J : It) (fp : List Addr) (it : Addr) (tn : Nat → Heap → Prop) : Prop where
  mem : it ∈ fp
  obj : ∀ i h, tn i h → ∀ b ∈ fp, ∃ o, h.get? b = some o ∧ ∀ v, o.data ≠ .cell v
  keep : ∀ i h h', tn i h → (∀ b ∈ fp, ∀ o, h.get? b = some o → h'.get? b = some o) → tn i h'
  item : ∀ (X : Cx), X.prog = P → X.w = w → X.K = K → X.calm = true → ∀ (i : Nat) (pins : List (Addr × Obj)) (s : Shared) (σ : St) (H : Hp) (E : Value → Shared → Prop), Inv X pins σ H s → (∀ b ∈ fp, FpOk X pins H b) → tn i s.heap → J.go i H →
    wpAny (model P w) X.A (pyNext (.ref it)) (fun r s1 => ∃ u, r = some u ∧
      wpAny (model P w) X.A (letOwnedTupleGo tg (.ref it) u) (fun _ s2 => ∃ x H', Inv X pins σ H' s2 ∧ RelV x u ∧ J.yld i H x H' ∧ tn (i + 1) s2.heap ∧ ∀ b ∈ fp, H' b = none) E s1) E s
  done : ∀ (X : Cx), X.prog = P → X.w = w → X.K = K → X.calm = true → ∀ (i : Nat) (pins : List (Addr × Obj)) (s : Shared) (σ : St) (H : Hp) (E : Value → Shared → Prop), Inv X pins σ H s → (∀ b ∈ fp, FpOk X pins H b) → tn i s.heap → J.stop i H →
    wpAny (model P w) X.A (pyNext (.ref it)) (fun r s1 => r = none ∧ Inv X pins σ H s1) E s
  self : ∀ (A : Around) (i : Nat) (s : Shared) (Q : Value → Shared → Prop) (E : Value → Shared → Prop), tn i s.heap → Q (.ref it) s → wpAny (model P w) A (pyIter (.ref it)) Q E s
abbrev TI := St → Hp → (It → Hp → Prop) → Prop
def PIE (X : Cx) (pins : List (Addr × Obj)) (σ : St) (tg : Expr) (R : It → Hp → Prop) (itv : Value) (s2 : Shared) : Prop :=
  ∃ (it : Addr) (fp : List Addr) (tn : Nat → Heap → Prop) (J : It) (H' : Hp), itv = .ref it ∧ Inv X pins σ H' s2 ∧ Turn X.prog X.w X.K tg J fp it tn ∧ tn 0 s2.heap ∧ (∀ b ∈ fp, FpOk X pins H' b) ∧ R J H'
def PI (X : Cx) (tg iter : Expr) (wi : TI) : Prop :=
  ∀ (pins : List (Addr × Obj)) (s : Shared) (σ : St) (H : Hp) (R : It → Hp → Prop), Inv X pins σ H s → wi σ H R →
    wpAny (model X.prog X.w) X.A (eval iter X.env) (fun v s1 => wpAny (model X.prog X.w) X.A (pyIter v) (PIE X pins σ tg R) X.xe s1) X.xe s
theorem go_of {M : Model} {A : Around} {E : Value → Shared → Prop} {s : Shared} {tg : Expr} {it : Addr} {u : Value} {o : Obj} {n : String} {vs : Array Value} {Q : Unit → Shared → Prop} (ho : s.heap.get? it = some o) (hc : o.cls = .type n) (hd : o.data = .fields vs)
    (hn : ["enumerate", "zip", "dict_itemiterator", "dict_reverseitemiterator", "odict_iterator", "itertools.zip_longest", "itertools.pairwise"].contains n = false) (hQ : Q () s) : wpAny M A (letOwnedTupleGo tg (.ref it) u) Q E s := by
  unfold letOwnedTupleGo
  cases tg <;> first
    | exact wpAny_pure hQ
    | (cases u <;> first
        | exact wpAny_pure hQ
        | (refine wpAny_bind (wpAny_load ho ?_)
           rw [hc, hd]
           show wpAny M A (if (["enumerate", "zip", "dict_itemiterator", "dict_reverseitemiterator", "odict_iterator", "itertools.zip_longest", "itertools.pairwise"].contains n && vs[0]? == some (rawInt _)) = true then _ else _) Q E s
           rw [if_neg (by intro h; rw [hn, Bool.false_and] at h; cases h)]
           exact wpAny_pure hQ))
def Itl (K : PySem.W.Frag) (a : Addr) : It :=
  ⟨fun i H => ∃ xs x, SqL K H a xs ∧ xs[i]? = some x, fun i H x H' => H' = H ∧ ∀ xs, SqL K H a xs → xs[i]? = some x, fun i H => ∃ xs, SqL K H a xs ∧ xs.length ≤ i⟩
def Itt (K : PySem.W.Frag) (a : Addr) : It :=
  ⟨fun i H => ∃ xs x, SqT K H a xs ∧ xs[i]? = some x, fun i H x H' => H' = H ∧ ∀ xs, SqT K H a xs → xs[i]? = some x, fun i H => ∃ xs, SqT K H a xs ∧ xs.length ≤ i⟩
def Itr (lo : Int) (n : Nat) : It := ⟨fun i _ => i < n, fun i H x H' => H' = H ∧ x = .int (lo + i), fun i _ => n ≤ i⟩
theorem turn_list {P : Program} {w : World} {K : PySem.W.Frag} {tg : Expr} (a it : Addr) : Turn P w K tg (Itl K a) [it] it (fun i h => h.IsListIter it a i) where
  mem := by simp
  obj := fun i h st b hb => by
    have e : b = it := by simpa using hb
    subst e
    obtain ⟨o, e, c, d⟩ := st
    exact ⟨o, e, fun v z => by rw [d] at z; cases z⟩
  keep := fun i h h' st k => st.at fun o e => k it (by simp) o e
  item := by
    intro X hP hw hK hc i pins s σ H E I hf st hg
    subst hP hw hK
    obtain ⟨xs, x, hq, hx⟩ := hg
    obtain ⟨its, rv, p, hz⟩ := I.list hq
    obtain ⟨u, hu, ru⟩ := rv.get hx
    obtain ⟨f0, f1, f2, f3, f4, f5⟩ := hf it (by simp)
    refine wpAny_pyNext_list_item st p.isList (x := u) (by simpa using hu) fun h' st' sb => ?_
    have I1 : Inv X pins σ H { s with heap := h' } := I.turned (t' := s.toks) (fun b o hb e => (sb.2 b hb).trans e) f0 f1 f3 f4 f5
    obtain ⟨o, e, c, d⟩ := id st'
    exact ⟨u, rfl, go_of (s := { s with heap := h' }) e c d (by decide) ⟨x, H, I1, ru, ⟨rfl, fun ys hy => by rw [I.list_inj hy hq]; exact hx⟩, st', fun b hb => (hf b hb).1⟩⟩
  done := by
    intro X hP hw hK hc i pins s σ H E I hf st hg
    subst hP hw hK
    obtain ⟨xs, hq, hx⟩ := hg
    obtain ⟨its, rv, p, hz⟩ := I.list hq
    obtain ⟨f0, f1, f2, f3, f4, f5⟩ := hf it (by simp)
    have hl := rv.length
    exact wpAny_pyNext_list_end (I.ok.hd hc) st p.isList (by simp; omega) fun h' eb => ⟨rfl, I.turned (t' := s.toks) (fun b o hb e => eb b o hb e) f0 f1 f3 f4 f5⟩
  self := fun _ _ _ _ _ st h => wpAny_pyIter_listiter st h
theorem turn_tuple {P : Program} {w : World} {K : PySem.W.Frag} {tg : Expr} (a it : Addr) : Turn P w K tg (Itt K a) [it] it (fun i h => h.IsTupleIter it a i) where
  mem := by simp
  obj := fun i h st b hb => by
    have e : b = it := by simpa using hb
    subst e
    obtain ⟨o, e, c, d⟩ := st
    exact ⟨o, e, fun v z => by rw [d] at z; cases z⟩
  keep := fun i h h' st k => st.at fun o e => k it (by simp) o e
  item := by
    intro X hP hw hK hc i pins s σ H E I hf st hg
    subst hP hw hK
    obtain ⟨xs, x, hq, hx⟩ := hg
    obtain ⟨its, rv, p, hz⟩ := I.tuple hq
    obtain ⟨u, hu, ru⟩ := rv.get hx
    obtain ⟨f0, f1, f2, f3, f4, f5⟩ := hf it (by simp)
    refine wpAny_pyNext_tuple_item st (show s.heap.IsTuple a its.toArray from p) (x := u) (by simpa using hu) fun h' st' sb => ?_
    have I1 : Inv X pins σ H { s with heap := h' } := I.turned (t' := s.toks) (fun b o hb e => (sb.2 b hb).trans e) f0 f1 f3 f4 f5
    obtain ⟨o, e, c, d⟩ := id st'
    exact ⟨u, rfl, go_of (s := { s with heap := h' }) e c d (by decide) ⟨x, H, I1, ru, ⟨rfl, fun ys hy => by rw [I.tuple_inj hy hq]; exact hx⟩, st', fun b hb => (hf b hb).1⟩⟩
  done := by
    intro X hP hw hK hc i pins s σ H E I hf st hg
    subst hP hw hK
    obtain ⟨xs, hq, hx⟩ := hg
    obtain ⟨its, rv, p, hz⟩ := I.tuple hq
    obtain ⟨f0, f1, f2, f3, f4, f5⟩ := hf it (by simp)
    have hl := rv.length
    exact wpAny_pyNext_tuple_end (I.ok.hd hc) st (show s.heap.IsTuple a its.toArray from p) (by simp; omega) fun h' eb => ⟨rfl, I.turned (t' := s.toks) (fun b o hb e => eb b o hb e) f0 f1 f3 f4 f5⟩
  self := fun _ _ _ _ _ st h => wpAny_pyIter_tupleiter st h
theorem turn_range {P : Program} {w : World} {K : PySem.W.Frag} {tg : Expr} (it : Addr) (lo : Int) (n : Nat) : Turn P w K tg (Itr lo n) [it] it (fun i h => IsRangeIter h it (lo + (i : Nat) * 1) ((n : Int) - (i : Nat)) 1) where
  mem := by simp
  obj := fun i h st b hb => by
    have e : b = it := by simpa using hb
    subst e
    exact ⟨_, st, fun v z => by
      have z' : Data.fields _ = Data.cell v := z
      cases z'⟩
  keep := fun i h h' st k => k it (by simp) _ st
  item := by
    intro X hP hw hK hc i pins s σ H E I hf st hg
    subst hP hw hK
    obtain ⟨f0, f1, f2, f3, f4, f5⟩ := hf it (by simp)
    have W := Walks.range (prog := X.prog) (w := X.w) (I.ok.hd hc) it lo 1 n
    refine W.item i s _ _ hg st fun v h' tk hv st' kk => ?_
    obtain ⟨t, rfl⟩ := hv
    have I1 : Inv X pins σ H { s with heap := h', toks := tk } := I.turned (fun b o hb e => kk b o (by simpa using hb) e) f0 f1 f3 f4 f5
    refine ⟨_, rfl, go_of (s := { s with heap := h', toks := tk }) (n := "range_iterator") st' rfl rfl (by decide) ⟨.int (lo + i), H, I1, ⟨t, ?_⟩, ⟨rfl, rfl⟩, st', fun b hb => (hf b hb).1⟩⟩
    rw [Int.mul_one]
  done := by
    intro X hP hw hK hc i pins s σ H E I hf st hg
    subst hP hw hK
    obtain ⟨f0, f1, f2, f3, f4, f5⟩ := hf it (by simp)
    exact wpAny_pyNext_range_end (I.ok.hd hc) st (by have : n ≤ i := hg; omega) fun h' eb => ⟨rfl, I.turned (t' := s.toks) (fun b o hb e => eb b o hb e) f0 f1 f3 f4 f5⟩
  self := fun _ _ _ _ _ st h => wpAny_pyIter_rangeiter st h
end L2
namespace L2
open PySem PySem.Spec PyProof.Rows
section
variable {X : Cx} {tg : Expr}
def iList (K : PySem.W.Frag) (tl : TE) : TI := fun σ H R => tl σ H fun x H1 => ∃ a, x = .ref a ∧ (∃ xs, SqL K H1 a xs) ∧ R (Itl K a) H1
def iTup (K : PySem.W.Frag) (tl : TE) : TI := fun σ H R => tl σ H fun x H1 => ∃ a, x = .ref a ∧ (∃ xs, SqT K H1 a xs) ∧ R (Itt K a) H1
theorem pi_list {l : Expr} {tl : TE} (hl : PE X l tl) : PI X tg l (iList X.K tl) := by
  intro pins s σ H R I h
  refine thn (hl pins s σ H _ I h) fun v s1 ⟨x, H1, I1, r1, q1⟩ => ?_
  obtain ⟨a, e, ⟨xs, hq⟩, q⟩ := q1
  subst e
  cases r1
  obtain ⟨its, rv, p, hz⟩ := I1.list hq
  refine wpAny_pyIter_list p.isList ?_
  refine ⟨s1.heap.objs.size, [s1.heap.objs.size], _, _, H1, rfl, I1.kept (t' := s1.toks) fun b o e => Heap.get?_push_of_some _ e, turn_list a _, ⟨_, Heap.get?_push_size _ rfl, rfl, rfl⟩, fun b hb => ?_, q⟩
  have e : b = s1.heap.objs.size := by simpa using hb
  subst e
  exact I1.fpOk (Nat.le_refl _) (I1.hok.fresh (Nat.le_refl _))
theorem pi_tup {l : Expr} {tl : TE} (hl : PE X l tl) : PI X tg l (iTup X.K tl) := by
  intro pins s σ H R I h
  refine thn (hl pins s σ H _ I h) fun v s1 ⟨x, H1, I1, r1, q1⟩ => ?_
  obtain ⟨a, e, ⟨xs, hq⟩, q⟩ := q1
  subst e
  cases r1
  obtain ⟨its, rv, p, hz⟩ := I1.tuple hq
  refine wpAny_pyIter_tuple (show s1.heap.IsTuple a its.toArray from p) ?_
  refine ⟨s1.heap.objs.size, [s1.heap.objs.size], _, _, H1, rfl, I1.kept (t' := s1.toks) fun b o e => Heap.get?_push_of_some _ e, turn_tuple a _, ⟨_, Heap.get?_push_size _ rfl, rfl, rfl⟩, fun b hb => ?_, q⟩
  have e : b = s1.heap.objs.size := by simpa using hb
  subst e
  exact I1.fpOk (Nat.le_refl _) (I1.hok.fresh (Nat.le_refl _))
theorem range_it {pins : List (Addr × Obj)} {σ : St} {H : Hp} {s : Shared} {R : It → Hp → Prop} {E : Value → Shared → Prop} {lo hi : Int} {t u v : Tok} {tk : Nat} (I : Inv X pins σ H s) (h1 : -(2 ^ 62) ≤ lo) (h2 : lo < 2 ^ 62) (h3 : -(2 ^ 62) ≤ hi) (h4 : hi < 2 ^ 62)
    (q : R (Itr lo (hi - lo).toNat) H) : wpAny (model X.prog X.w) X.A (pyIter (.ref s.heap.objs.size)) (PIE X pins σ tg R) E { s with heap := s.heap.push { cls := .type "range", data := .fields #[.int lo t, .int hi u, .int 1 v] }, toks := tk } := by
  refine wpAny_pyIter_range (IsRange.new ..) (small_one h1 h2 h3 h4) ?_
  have I1 : Inv X pins σ H { s with heap := s.heap.push { cls := .type "range", data := .fields #[.int lo t, .int hi u, .int 1 v] }, toks := tk } := I.kept fun b o e => Heap.get?_push_of_some _ e
  refine ⟨(s.heap.push { cls := .type "range", data := .fields #[.int lo t, .int hi u, .int 1 v] }).objs.size, [(s.heap.push { cls := .type "range", data := .fields #[.int lo t, .int hi u, .int 1 v] }).objs.size], _, _, H, rfl,
    I1.kept (t' := tk) fun b o e => Heap.get?_push_of_some _ e, turn_range _ lo (hi - lo).toNat, ?_, fun b hb => ?_, q⟩
  · have e1 : lo + ((0 : Nat) : Int) * 1 = lo := by simp
    have e2 : (((hi - lo).toNat : Nat) : Int) - ((0 : Nat) : Int) = Builtin.Range.rangeSize lo hi 1 := by rw [rangeSize_one]; split <;> omega
    show IsRangeIter _ _ (lo + ((0 : Nat) : Int) * 1) ((((hi - lo).toNat : Nat) : Int) - ((0 : Nat) : Int)) 1
    rw [e1, e2]
    exact Heap.get?_push_size _ rfl
  · have e : b = (s.heap.push { cls := .type "range", data := .fields #[.int lo t, .int hi u, .int 1 v] }).objs.size := by simpa using hb
    subst e
    exact I1.fpOk (Nat.le_refl _) (I1.hok.fresh (Nat.le_refl _))
def iRng1 (ta : TA) : TI := fun σ H R => ta σ H fun vs H1 => ∃ j : Int, vs = [.int j] ∧ -(2 ^ 62) ≤ j ∧ j < 2 ^ 62 ∧ R (Itr 0 j.toNat) H1
theorem pi_range1 {a : Expr} {ta : TA} {p pos : Pos} (hg : Gl X "range") (hm : X.mg "range" = none) (ha : PA X [a] ta) (hs : starEach [a] X.env = [(false, eval a X.env)] := by rfl) : PI X tg (.Call (.Name "range" p) [a] [] pos) (iRng1 ta) := by
  intro pins s σ H R I h
  refine Call_ (ld_blt I hg hm boot_range (PyProof.Rows.callWith_type1 (thn (ha pos pins s σ H _ I h) fun us s1 ⟨vs, H1, I1, r1, q1⟩ => ?_) hs rfl))
  obtain ⟨j, e, q1, q2, q⟩ := q1
  subst e
  cases r1 with
  | cons r rr =>
    cases rr
    obtain ⟨t, rfl⟩ := r
    exact call_range_1 (range_it I1 (by omega) (by omega) q1 q2 (by simpa using q))
def tFor (wi : TI) (g : TG) (tb : TS) : TS := fun D σ H => wi σ H fun J H1 => ∃ W : Nat → Nat → St → Hp → Prop, (∃ m, W 0 m σ H1) ∧ ∀ i m σ H, W i m σ H →
  (J.stop i H ∧ D.nx σ H) ∨ (J.go i H ∧ ∃ N : St → Hp → Prop, (∀ σ' H', N σ' H' → ∃ m', m' < m ∧ W (i + 1) m' σ' H') ∧ ∀ x H', J.yld i H x H' → g x σ H' fun σ2 H2 => tb { D with nx := N, ct := N, bk := D.nx } σ2 H2)
def pinsAt (fp : List Addr) (h : Heap) : List (Addr × Obj) := fp.filterMap fun b => (h.get? b).map fun o => (b, o)
theorem mem_pinsAt {fp : List Addr} {h : Heap} {b : Addr} {o : Obj} (hb : b ∈ fp) (e : h.get? b = some o) : (b, o) ∈ pinsAt fp h := List.mem_filterMap.mpr ⟨b, hb, by rw [e]; rfl⟩
theorem of_pinsAt {fp : List Addr} {h : Heap} {p : Addr × Obj} (hp : p ∈ pinsAt fp h) : p.1 ∈ fp ∧ h.get? p.1 = some p.2 := by
  obtain ⟨b, hb, e⟩ := List.mem_filterMap.mp hp
  cases q : h.get? b with
  | none => rw [q] at e; cases e
  | some o =>
    rw [q] at e
    have e' : (b, o) = p := Option.some.inj e
    subst e'
    exact ⟨hb, q⟩
theorem Inv.pinned {pins : List (Addr × Obj)} {σ : St} {H : Hp} {s : Shared} {fp : List Addr} (I : Inv X pins σ H s) (hf : ∀ b ∈ fp, FpOk X pins H b) (ho : ∀ b ∈ fp, ∃ o, s.heap.get? b = some o ∧ ∀ v, o.data ≠ .cell v) : Inv X (pins ++ pinsAt fp s.heap) σ H s :=
  I.pins_of fun p hp => (List.mem_append.mp hp).elim (fun z => I.pin p (List.mem_append_right _ z)) fun z => by
    obtain ⟨hb, e⟩ := of_pinsAt z
    obtain ⟨f0, f1, f2, _⟩ := hf p.1 hb
    obtain ⟨o, e', d⟩ := ho p.1 hb
    rw [e] at e'; cases e'
    exact ⟨e, f0, f1, f2, d⟩
theorem Inv.unpinned {pins pl : List (Addr × Obj)} {σ : St} {H : Hp} {s : Shared} (I : Inv X (pins ++ pl) σ H s) : Inv X pins σ H s := I.pins_of fun p hp => I.pin p (List.mem_append_right _ (List.mem_append_left _ hp))
theorem ps_for {iter : Expr} {body : List Stmt} {wi : TI} {g : TG} {tb : TS} {pos : Pos} (hp : PassesOwn (model X.prog X.w) X.A X.env X.xe) (hc : X.calm = true) (hi : PI X tg iter wi) (hg : PG X tg g) (hb : PSs X body tb)
    (hs : ∀ x, foldedSetIterable iter X.env x = pure x := by intro _; rfl) : PS X (.For tg iter body [] pos) (tFor wi g tb) := by
  intro pins s σ H D I h
  refine wpAny_For (thn (hi pins s σ H _ I h) fun v s1 h1 => thn h1 fun itv s2 h2 => ?_) hs
  obtain ⟨it, fp, tn, J, H2, e, I2, T, st2, f2, W, ⟨m0, w0⟩, turn⟩ := h2
  subst e
  have stat : ∀ {H' : Hp}, (∀ b ∈ fp, H' b = none) → ∀ b ∈ fp, FpOk X pins H' b := fun hn b hb => ⟨hn b hb, (f2 b hb).2⟩
  refine codeAny_forLoop_any (fun n s' => ∃ i σ' H', Inv X pins σ' H' s' ∧ tn i s'.heap ∧ (∀ b ∈ fp, H' b = none) ∧ W i n σ' H') ?_ m0 ⟨0, σ, H2, I2, st2, fun b hb => (f2 b hb).1, w0⟩
  rintro n s3 ⟨i, σ3, H3, I3, st3, fr3, w3⟩
  rcases turn i n σ3 H3 w3 with ⟨stop, qn⟩ | ⟨go, N, hN, step⟩
  · refine wpAny_passesOwn hp (thn (T.done X rfl rfl rfl hc i pins s3 σ3 H3 X.xe I3 (stat fr3) st3 stop) fun r s4 ⟨hr, I4⟩ => ?_)
    subst hr
    exact wpAny_execs_nil ⟨σ3, H3, I4, qn⟩
  · refine wpAny_passesOwn hp (thn (T.item X rfl rfl rfl hc i pins s3 σ3 H3 X.xe I3 (stat fr3) st3 go) fun r s4 ⟨u, hr, h4⟩ => ?_)
    subst hr
    refine wpAny_passesOwn hp (thn h4 fun _ s5 ⟨x, H5, I5, r5, y5, st5, fr5⟩ => ?_)
    have I5' := I5.pinned (stat fr5) (T.obj _ _ st5)
    refine wpAny_passesOwn hp (thn (hg _ s5 σ3 H5 x u _ I5' r5 (step x H5 y5)) fun _ s6 ⟨σ6, H6, I6, q6⟩ => ?_)
    refine wpAny_passesOwn hp (thn (hb _ s6 σ6 H6 _ I6 q6) fun f s7 q7 => ?_)
    have again : ∀ {σ7 : St} {H7 : Hp}, Inv X (pins ++ pinsAt fp s5.heap) σ7 H7 s7 → N σ7 H7 → ∃ m, m < n ∧ ∃ i σ' H', Inv X pins σ' H' s7 ∧ tn i s7.heap ∧ (∀ b ∈ fp, H' b = none) ∧ W i m σ' H' := fun {σ7 H7} I7 n7 => by
      obtain ⟨m', hm, w7⟩ := hN σ7 H7 n7
      refine ⟨m', hm, i + 1, σ7, H7, I7.unpinned, T.keep _ _ _ st5 fun b hb o e => (I7.pin (b, o) (List.mem_append_right _ (List.mem_append_right _ (mem_pinsAt hb e)))).1, fun b hb => ?_, w7⟩
      obtain ⟨o, e, d⟩ := T.obj _ _ st5 b hb
      exact (I7.pin (b, o) (List.mem_append_right _ (List.mem_append_right _ (mem_pinsAt hb e)))).2.1
    cases f with
    | next => obtain ⟨σ7, H7, I7, n7⟩ := q7; exact again I7 n7
    | cont => obtain ⟨σ7, H7, I7, n7⟩ := q7; exact again I7 n7
    | brk => obtain ⟨σ7, H7, I7, q7⟩ := q7; exact ⟨σ7, H7, I7.unpinned, q7⟩
    | ret v => obtain ⟨x7, σ7, H7, I7, r7, q7⟩ := q7; exact ⟨x7, σ7, H7, I7.unpinned, r7, q7⟩
end
theorem for_list {K : PySem.W.Frag} {a : Addr} {xs : List V} {g : TG} {tb : TS} {D : Ends} {σ : St} {H : Hp} (Pv : Nat → St → Hp → Prop) (h0 : Pv 0 σ H) (hl : ∀ i σ H, i ≤ xs.length → Pv i σ H → SqL K H a xs)
    (hs : ∀ i x σ H, xs[i]? = some x → Pv i σ H → g x σ H fun σ2 H2 => tb { D with nx := Pv (i + 1), ct := Pv (i + 1), bk := D.nx } σ2 H2) (hd : ∀ σ H, Pv xs.length σ H → D.nx σ H) :
    ∃ W : Nat → Nat → St → Hp → Prop, (∃ m, W 0 m σ H) ∧ ∀ i m σ H, W i m σ H →
      ((Itl K a).stop i H ∧ D.nx σ H) ∨ ((Itl K a).go i H ∧ ∃ N : St → Hp → Prop, (∀ σ' H', N σ' H' → ∃ m', m' < m ∧ W (i + 1) m' σ' H') ∧ ∀ x H', (Itl K a).yld i H x H' → g x σ H' fun σ2 H2 => tb { D with nx := N, ct := N, bk := D.nx } σ2 H2) := by
  refine ⟨fun i m σ H => m = xs.length - i ∧ i ≤ xs.length ∧ Pv i σ H, ⟨xs.length, by simp, Nat.zero_le _, h0⟩, ?_⟩
  rintro i m σ H ⟨rfl, hi, p⟩
  have q := hl i σ H hi p
  by_cases hlt : i < xs.length
  · refine .inr ⟨⟨xs, xs[i], q, by simp [hlt]⟩, Pv (i + 1), fun σ' H' p' => ⟨xs.length - (i + 1), by omega, rfl, hlt, p'⟩, fun x H' y => ?_⟩
    obtain ⟨e, y⟩ := y
    subst e
    exact hs i x σ _ (y xs q) p
  · have e : i = xs.length := by omega
    subst e
    exact .inl ⟨⟨xs, q, Nat.le_refl _⟩, hd σ H p⟩
theorem for_tup {K : PySem.W.Frag} {a : Addr} {xs : List V} {g : TG} {tb : TS} {D : Ends} {σ : St} {H : Hp} (Pv : Nat → St → Hp → Prop) (h0 : Pv 0 σ H) (hl : ∀ i σ H, i ≤ xs.length → Pv i σ H → SqT K H a xs)
    (hs : ∀ i x σ H, xs[i]? = some x → Pv i σ H → g x σ H fun σ2 H2 => tb { D with nx := Pv (i + 1), ct := Pv (i + 1), bk := D.nx } σ2 H2) (hd : ∀ σ H, Pv xs.length σ H → D.nx σ H) :
    ∃ W : Nat → Nat → St → Hp → Prop, (∃ m, W 0 m σ H) ∧ ∀ i m σ H, W i m σ H →
      ((Itt K a).stop i H ∧ D.nx σ H) ∨ ((Itt K a).go i H ∧ ∃ N : St → Hp → Prop, (∀ σ' H', N σ' H' → ∃ m', m' < m ∧ W (i + 1) m' σ' H') ∧ ∀ x H', (Itt K a).yld i H x H' → g x σ H' fun σ2 H2 => tb { D with nx := N, ct := N, bk := D.nx } σ2 H2) := by
  refine ⟨fun i m σ H => m = xs.length - i ∧ i ≤ xs.length ∧ Pv i σ H, ⟨xs.length, by simp, Nat.zero_le _, h0⟩, ?_⟩
  rintro i m σ H ⟨rfl, hi, p⟩
  have q := hl i σ H hi p
  by_cases hlt : i < xs.length
  · refine .inr ⟨⟨xs, xs[i], q, by simp [hlt]⟩, Pv (i + 1), fun σ' H' p' => ⟨xs.length - (i + 1), by omega, rfl, hlt, p'⟩, fun x H' y => ?_⟩
    obtain ⟨e, y⟩ := y
    subst e
    exact hs i x σ _ (y xs q) p
  · have e : i = xs.length := by omega
    subst e
    exact .inl ⟨⟨xs, q, Nat.le_refl _⟩, hd σ H p⟩
theorem for_range {lo : Int} {n : Nat} {g : TG} {tb : TS} {D : Ends} {σ : St} {H : Hp} (Pv : Nat → St → Hp → Prop) (h0 : Pv 0 σ H)
    (hs : ∀ i σ H, i < n → Pv i σ H → g (.int (lo + i)) σ H fun σ2 H2 => tb { D with nx := Pv (i + 1), ct := Pv (i + 1), bk := D.nx } σ2 H2) (hd : ∀ σ H, Pv n σ H → D.nx σ H) :
    ∃ W : Nat → Nat → St → Hp → Prop, (∃ m, W 0 m σ H) ∧ ∀ i m σ H, W i m σ H →
      ((Itr lo n).stop i H ∧ D.nx σ H) ∨ ((Itr lo n).go i H ∧ ∃ N : St → Hp → Prop, (∀ σ' H', N σ' H' → ∃ m', m' < m ∧ W (i + 1) m' σ' H') ∧ ∀ x H', (Itr lo n).yld i H x H' → g x σ H' fun σ2 H2 => tb { D with nx := N, ct := N, bk := D.nx } σ2 H2) := by
  refine ⟨fun i m σ H => m = n - i ∧ i ≤ n ∧ Pv i σ H, ⟨n, by simp, Nat.zero_le _, h0⟩, ?_⟩
  rintro i m σ H ⟨rfl, hi, p⟩
  by_cases hlt : i < n
  · refine .inr ⟨hlt, Pv (i + 1), fun σ' H' p' => ⟨n - (i + 1), by omega, rfl, hlt, p'⟩, fun x H' y => ?_⟩
    obtain ⟨e, y⟩ := y
    subst e y
    exact hs i σ _ hlt p
  · have e : i = n := by omega
    subst e
    exact .inl ⟨Nat.le_refl _, hd σ H p⟩
end L2
namespace L2
open PySem PySem.Spec PyProof.Rows
abbrev R2 := V → V → Hp → VK → Prop
def OpR (X : Cx) (f : Value → Value → Sem Value) (r : R2) : Prop :=
  ∀ (pins : List (Addr × Obj)) (s : Shared) (σ : St) (H : Hp) (x y : V) (v u : Value) (Q : VK), Inv X pins σ H s → RelV x v → RelV y u → r x y H Q →
    wpAny (model X.prog X.w) X.A (f v u) (EP X pins σ Q) X.xe s
def CallR (X : Cx) (f : Value) (r : List V → Hp → VK → Prop) : Prop :=
  ∀ (pins : List (Addr × Obj)) (s : Shared) (σ : St) (H : Hp) (xs : List V) (us : List Value) (Q : VK), Inv X pins σ H s → Vals xs us → r xs H Q →
    wpAny (model X.prog X.w) X.A (call f us) (EP X pins σ Q) X.xe s
def tOp (r : R2) (ta tb : TE) : TE := fun σ H Q => ta σ H fun x H1 => tb σ H1 fun y H2 => r x y H2 Q
def rI (C : Int → Int → Prop) (g : Int → Int → V) : R2 := fun x y H Q => ∃ i j, x = .int i ∧ y = .int j ∧ C i j ∧ Q (g i j) H
def rI0 (g : Int → Int → V) : R2 := fun x y H Q => ∃ i j, x = .int i ∧ y = .int j ∧ Q (g i j) H
section
variable {X : Cx} {a b c : Expr} {ta tb tc : TE} {pos : Pos}
theorem binT (ha : PE X a ta) (hb : PE X b tb) {pins : List (Addr × Obj)} {s : Shared} {σ : St} {H : Hp} {R : V → V → Hp → Prop} (I : Inv X pins σ H s)
    (h : ta σ H fun x H1 => tb σ H1 fun y H2 => R x y H2) {Q : Value → Shared → Prop} {f : Value → Value → Sem Value}
    (hf : ∀ v u s2 x y H2, Inv X pins σ H2 s2 → RelV x v → RelV y u → R x y H2 → wpAny (model X.prog X.w) X.A (f v u) Q X.xe s2) :
    wpAny (model X.prog X.w) X.A (eval a X.env) (fun v s₁ => wpAny (model X.prog X.w) X.A (eval b X.env) (fun u s₂ => wpAny (model X.prog X.w) X.A (f v u) Q X.xe s₂) X.xe s₁) X.xe s := by
  refine thn (ha pins s σ H _ I h) fun v s1 ⟨x, H1, I1, r1, q1⟩ => ?_
  refine thn (hb pins s1 σ H1 _ I1 q1) fun u s2 ⟨y, H2, I2, r2, q2⟩ => ?_
  exact hf v u s2 x y H2 I2 r1 r2 q2
theorem pe_op {op : Operator} {r : R2} (ho : OpR X (binaryOp op) r) (ha : PE X a ta) (hb : PE X b tb) : PE X (.BinOp a op b pos) (tOp r ta tb) := by
  intro pins s σ H Q I h
  exact wpAny_BinOp (binT ha hb I h fun v u s2 x y H2 I2 rx ry q => ho pins s2 σ H2 x y v u Q I2 rx ry q)
theorem opI {f : Value → Value → Sem Value} {C : Int → Int → Prop} {g : Int → Int → Int}
    (rule : ∀ (i j : Int) (t u : Tok) (s : Shared) (Q : Value → Shared → Prop) (E : Value → Shared → Prop), C i j → Q (.int (g i j) s.toks) { s with toks := s.toks + 1 } → wpAny (model X.prog X.w) X.A (f (.int i t) (.int j u)) Q E s) :
    OpR X f (rI C fun i j => .int (g i j)) := by
  intro pins s σ H x y v u Q I rx ry h
  obtain ⟨i, j, rfl, rfl, hc, q⟩ := h
  obtain ⟨t, rfl⟩ := rx
  obtain ⟨t', rfl⟩ := ry
  exact rule i j t t' s _ _ hc ⟨.int (g i j), H, I.tok _, ⟨_, rfl⟩, q⟩
theorem opI0 {f : Value → Value → Sem Value} {g : Int → Int → Int}
    (rule : ∀ (i j : Int) (t u : Tok) (s : Shared) (Q : Value → Shared → Prop) (E : Value → Shared → Prop), Q (.int (g i j) s.toks) { s with toks := s.toks + 1 } → wpAny (model X.prog X.w) X.A (f (.int i t) (.int j u)) Q E s) :
    OpR X f (rI0 fun i j => .int (g i j)) := by
  intro pins s σ H x y v u Q I rx ry h
  obtain ⟨i, j, rfl, rfl, q⟩ := h
  obtain ⟨t, rfl⟩ := rx
  obtain ⟨t', rfl⟩ := ry
  exact rule i j t t' s _ _ ⟨.int (g i j), H, I.tok _, ⟨_, rfl⟩, q⟩
theorem opB0 {f : Value → Value → Sem Value} {g : Int → Int → Bool}
    (rule : ∀ (i j : Int) (t u : Tok) (s : Shared) (Q : Value → Shared → Prop) (E : Value → Shared → Prop), Q (.bool (g i j)) s → wpAny (model X.prog X.w) X.A (f (.int i t) (.int j u)) Q E s) :
    OpR X f (rI0 fun i j => .bl (g i j)) := by
  intro pins s σ H x y v u Q I rx ry h
  obtain ⟨i, j, rfl, rfl, q⟩ := h
  obtain ⟨t, rfl⟩ := rx
  obtain ⟨t', rfl⟩ := ry
  exact rule i j t t' s _ _ ⟨.bl (g i j), H, I, rfl, q⟩
def CDiv (i j : Int) : Prop := 0 < j ∧ j < 1073741824
def CMul (i j : Int) : Prop := (-(2 ^ 64) < i ∧ i < 2 ^ 64) ∨ (-(2 ^ 64) < j ∧ j < 2 ^ 64)
theorem CMul.ok {i j : Int} (h : CMul i j) : IntMulOk i j := by
  rcases h with ⟨h1, h2⟩ | ⟨h1, h2⟩
  · exact .of_left (intBits_le_64 h1 h2)
  · exact .of_right (intBits_le_64 h1 h2)
theorem op_add : OpR X (binaryOp .Add) (rI0 fun i j => .int (i + j)) := opI0 fun _ _ _ _ _ _ _ q => add_int q
theorem op_sub : OpR X (binaryOp .Sub) (rI0 fun i j => .int (i - j)) := opI0 fun _ _ _ _ _ _ _ q => sub_int q
theorem op_mul : OpR X (binaryOp .Mult) (rI CMul fun i j => .int (i * j)) := opI fun _ _ _ _ _ _ _ hc q => mul_int q hc.ok
theorem op_fdiv : OpR X (binaryOp .FloorDiv) (rI CDiv fun i j => .int (i / j)) := opI fun i j _ _ _ _ _ hc q => by
  have h1 : (0 : Int) < j := hc.1
  have h2 : j < 1073741824 := hc.2
  exact floordiv_int (by omega) (by rw [Int.fdiv_eq_ediv_of_nonneg i (by omega)]; exact q) (.inl (PyProof.noPylong_small (by omega)))
theorem op_mod : OpR X (binaryOp .Mod) (rI (fun _ j => 0 < j) fun i j => .int (i % j)) := opI fun i j _ _ _ _ _ hc q => by
  have h1 : (0 : Int) < j := hc
  exact mod_int' (by omega) (by rw [Int.fmod_eq_emod_of_nonneg i (by omega)]; exact q)
end
def scal : V → V → Bool
  | .non, .non => true | .non, .int _ => true | .int _, .non => true | .non, .bl _ => true | .bl _, .non => true | .non, .str _ => true | .str _, .non => true
  | .int _, .int _ => true | .bl _, .bl _ => true | .str _, .str _ => true | .byt _, .byt _ => true
  | .int _, .str _ => true | .str _, .int _ => true | .bl _, .str _ => true | .str _, .bl _ => true
  | _, _ => false
def rEq : R2 := fun x y H Q => scal x y = true ∧ Q (.bl (decide (x = y))) H
def rNe : R2 := fun x y H Q => scal x y = true ∧ Q (.bl (!decide (x = y))) H
theorem dec_int {i j : Int} : decide (V.int i = V.int j) = (i == j) := by
  rw [Bool.eq_iff_iff]
  simp
theorem dec_bl {i j : Bool} : decide (V.bl i = V.bl j) = (i == j) := by
  rw [Bool.eq_iff_iff]
  simp
theorem dec_str {i j : Str} : decide (V.str i = V.str j) = (i == j) := by
  rw [Bool.eq_iff_iff]
  simp
theorem dec_byt {i j : Array UInt8} : decide (V.byt i = V.byt j) = (i.toList == j.toList) := by
  rw [Bool.eq_iff_iff]
  cases i
  cases j
  simp
section
variable {X : Cx} {a b c : Expr} {ta tb tc : TE} {pos : Pos}
theorem fin_bl {pins : List (Addr × Obj)} {σ : St} {H : Hp} {s : Shared} {Q : VK} {k k' : Bool} (I : Inv X pins σ H s) (q : Q (.bl k) H) (e : k = k') : EP X pins σ Q (.bool k') s := by
  subst e
  exact ⟨.bl k, H, I, rfl, q⟩
theorem op_eq : OpR X (compareOp .Eq) rEq := by
  intro pins s σ H x y v u Q I rx ry h
  obtain ⟨hs, q⟩ := h
  cases x with
  | non =>
    cases rx
    cases y with
    | non => cases ry; exact PySem.EqNone.eq_none_none (fin_bl I q (by simp))
    | bl j => cases ry; exact PySem.EqNone.eq_none_bool (fin_bl I q (by simp))
    | int j => obtain ⟨t', rfl⟩ := ry; exact PySem.EqNone.eq_none_int (fin_bl I q (by simp))
    | str j => obtain ⟨t', rfl⟩ := ry; exact PySem.EqNone.eq_none_str (fin_bl I q (by simp))
    | _ => exact absurd (show false = true from hs) Bool.false_ne_true
  | bl i =>
    cases rx
    cases y with
    | non => cases ry; exact PySem.EqNone.eq_bool_none (fin_bl I q (by simp))
    | bl j => cases ry; exact eq_bool (fin_bl I q dec_bl)
    | str j => obtain ⟨t', rfl⟩ := ry; exact PySem.EqMixed.eq_bool_str (fin_bl I q (by simp))
    | _ => exact absurd (show false = true from hs) Bool.false_ne_true
  | int i =>
    obtain ⟨t, rfl⟩ := rx
    cases y with
    | non => cases ry; exact PySem.EqNone.eq_int_none (fin_bl I q (by simp))
    | int j => obtain ⟨t', rfl⟩ := ry; exact eq_int (fin_bl I q dec_int)
    | str j => obtain ⟨t', rfl⟩ := ry; exact PySem.EqMixed.eq_int_str (fin_bl I q (by simp))
    | _ => exact absurd (show false = true from hs) Bool.false_ne_true
  | str i =>
    obtain ⟨t, rfl⟩ := rx
    cases y with
    | non => cases ry; exact PySem.EqNone.eq_str_none (fin_bl I q (by simp))
    | bl j => cases ry; exact PySem.EqMixed.eq_str_bool (fin_bl I q (by simp))
    | int j => obtain ⟨t', rfl⟩ := ry; exact PySem.EqMixed.eq_str_int (fin_bl I q (by simp))
    | str j => obtain ⟨t', rfl⟩ := ry; exact eq_str (fin_bl I q dec_str)
    | _ => exact absurd (show false = true from hs) Bool.false_ne_true
  | byt i =>
    obtain ⟨t, rfl⟩ := rx
    cases y with
    | byt j => obtain ⟨t', rfl⟩ := ry; exact PySem.W.eq_bytes (fin_bl I q dec_byt)
    | _ => exact absurd (show false = true from hs) Bool.false_ne_true
  | _ => cases y <;> exact absurd (show false = true from hs) Bool.false_ne_true
theorem op_ne : OpR X (compareOp .NotEq) rNe := by
  intro pins s σ H x y v u Q I rx ry h
  obtain ⟨hs, q⟩ := h
  cases x with
  | non =>
    cases rx
    cases y with
    | non => cases ry; exact PySem.EqNone.ne_none_none (fin_bl I q (by simp))
    | bl j => cases ry; exact PySem.EqNone.ne_none_bool (fin_bl I q (by simp))
    | int j => obtain ⟨t', rfl⟩ := ry; exact PySem.EqNone.ne_none_int (fin_bl I q (by simp))
    | str j => obtain ⟨t', rfl⟩ := ry; exact PySem.EqNone.ne_none_str (fin_bl I q (by simp))
    | _ => exact absurd (show false = true from hs) Bool.false_ne_true
  | bl i =>
    cases rx
    cases y with
    | non => cases ry; exact PySem.EqNone.ne_bool_none (fin_bl I q (by simp))
    | bl j => cases ry; exact ne_bool (fin_bl I q (congrArg not dec_bl))
    | str j => obtain ⟨t', rfl⟩ := ry; exact PySem.EqMixed.ne_bool_str (fin_bl I q (by simp))
    | _ => exact absurd (show false = true from hs) Bool.false_ne_true
  | int i =>
    obtain ⟨t, rfl⟩ := rx
    cases y with
    | non => cases ry; exact PySem.EqNone.ne_int_none (fin_bl I q (by simp))
    | int j => obtain ⟨t', rfl⟩ := ry; exact ne_int (fin_bl I q (congrArg not dec_int))
    | str j => obtain ⟨t', rfl⟩ := ry; exact PySem.EqMixed.ne_int_str (fin_bl I q (by simp))
    | _ => exact absurd (show false = true from hs) Bool.false_ne_true
  | str i =>
    obtain ⟨t, rfl⟩ := rx
    cases y with
    | non => cases ry; exact PySem.EqNone.ne_str_none (fin_bl I q (by simp))
    | bl j => cases ry; exact PySem.EqMixed.ne_str_bool (fin_bl I q (by simp))
    | int j => obtain ⟨t', rfl⟩ := ry; exact PySem.EqMixed.ne_str_int (fin_bl I q (by simp))
    | str j => obtain ⟨t', rfl⟩ := ry; exact ne_str (fin_bl I q (congrArg not dec_str))
    | _ => exact absurd (show false = true from hs) Bool.false_ne_true
  | byt i =>
    obtain ⟨t, rfl⟩ := rx
    cases y with
    | byt j => obtain ⟨t', rfl⟩ := ry; exact PySem.W.ne_bytes (fin_bl I q (congrArg not dec_byt))
    | _ => exact absurd (show false = true from hs) Bool.false_ne_true
  | _ => cases y <;> exact absurd (show false = true from hs) Bool.false_ne_true
theorem op_lt : OpR X (compareOp .Lt) (rI0 fun i j => .bl (decide (i < j))) := opB0 fun _ _ _ _ _ _ _ q => lt_int q
theorem op_gt : OpR X (compareOp .Gt) (rI0 fun i j => .bl (decide (j < i))) := opB0 fun _ _ _ _ _ _ _ q => gt_int q
theorem op_ge : OpR X (compareOp .GtE) (rI0 fun i j => .bl (decide (j ≤ i))) := opB0 fun _ _ _ _ _ _ _ q => ge_int q
theorem op_isN : OpR X (compareOp .Is) (fun x y H Q => y = .non ∧ Q (.bl (decide (x = .non))) H) := by
  intro pins s σ H x y v u Q I rx ry h
  obtain ⟨rfl, q⟩ := h
  cases ry
  refine is_none_gen (fin_bl I q ?_)
  cases x <;> first
    | (cases rx; rfl)
    | (obtain ⟨t, rfl⟩ := rx; rfl)
theorem op_notN : OpR X (compareOp .IsNot) (fun x y H Q => y = .non ∧ Q (.bl (!decide (x = .non))) H) := by
  intro pins s σ H x y v u Q I rx ry h
  obtain ⟨rfl, q⟩ := h
  cases ry
  refine isnot_none_gen (fin_bl I q ?_)
  cases x <;> first
    | (cases rx; rfl)
    | (obtain ⟨t, rfl⟩ := rx; rfl)
theorem nomark (b : Expr) {op : CmpOp} (h : op ≠ .In := by decide) (h2 : op ≠ .NotIn := by decide) : behindInMarks op b = false := by
  have e1 : (op == CmpOp.In) = false := by cases op <;> first | rfl | exact absurd rfl h
  have e2 : (op == CmpOp.NotIn) = false := by cases op <;> first | rfl | exact absurd rfl h2
  cases b <;> simp [behindInMarks, e1, e2]
theorem pe_cmpR {op : CmpOp} {r : R2} (ho : OpR X (compareOp op) r) (ha : PE X a ta) (hb : PE X b tb) (hm : behindInMarks op b = false) : PE X (.Compare a [op] [b] pos) (tOp r ta tb) := by
  intro pins s σ H Q I h
  exact wpAny_Compare1 (binT ha hb I h fun v u s2 x y H2 I2 rx ry q => ho pins s2 σ H2 x y v u Q I2 rx ry q) hm
def tTest (t : TE) : TT := fun σ H Q => t σ H fun x H' => ∃ k, x = .bl k ∧ Q k H'
theorem pt_cmpR {op : CmpOp} {r : R2} (ho : OpR X (compareOp op) r) (ha : PE X a ta) (hb : PE X b tb) (hm : behindInMarks op b = false) : PT X (.Compare a [op] [b] pos) (tTest (tOp r ta tb)) := by
  intro pins s σ H Q I h
  refine wpAny_isTrue_Compare1 (thn (ha pins s σ H _ I h) fun v s1 ⟨x, H1, I1, r1, q1⟩ => thn (hb pins s1 σ H1 _ I1 q1) fun u s2 ⟨y, H2, I2, r2, q2⟩ =>
    thn (ho pins s2 σ H2 x y v u _ I2 r1 r2 q2) fun c s3 ⟨z, H3, I3, r3, k, e, q3⟩ => ?_) hm
  subst e
  cases r3
  exact wpAny_truthy_bool ⟨H3, I3, q3⟩
theorem line63 : (sizeLine : Nat) < 2 ^ 63 := by rw [sizeLine_eq]; decide
theorem vals1 {x : V} {us : List Value} (r : Vals [x] us) : ∃ u, us = [u] ∧ RelV x u := by
  cases r with
  | cons r1 r2 => cases r2; exact ⟨_, rfl, r1⟩
theorem vals2 {x y : V} {us : List Value} (r : Vals [x, y] us) : ∃ u w', us = [u, w'] ∧ RelV x u ∧ RelV y w' := by
  cases r with
  | cons r1 r2 =>
    cases r2 with
    | cons r3 r4 => cases r4; exact ⟨_, _, rfl, r1, r3⟩
theorem call_max2 (hc : X.calm = true) : CallR X (.builtin "max") (fun xs H Q => ∃ i j, xs = [.int i, .int j] ∧ Q (.int (if j > i then j else i)) H) := by
  intro pins s σ H xs us Q I r h
  obtain ⟨i, j, rfl, q⟩ := h
  obtain ⟨u, w', rfl, ⟨t, rfl⟩, ⟨t', rfl⟩⟩ := vals2 r
  refine max_two_ints (I.ok.hd hc) fun h' tk k => ⟨_, H, I.kept k, ?_, q⟩
  by_cases hj : j > i
  · rw [if_pos hj, if_pos hj]; exact ⟨_, rfl⟩
  · rw [if_neg hj, if_neg hj]; exact ⟨_, rfl⟩
theorem call_min2 (hc : X.calm = true) : CallR X (.builtin "min") (fun xs H Q => ∃ i j, xs = [.int i, .int j] ∧ Q (.int (if j < i then j else i)) H) := by
  intro pins s σ H xs us Q I r h
  obtain ⟨i, j, rfl, q⟩ := h
  obtain ⟨u, w', rfl, ⟨t, rfl⟩, ⟨t', rfl⟩⟩ := vals2 r
  refine min_two_ints (I.ok.hd hc) fun h' tk k => ⟨_, H, I.kept k, ?_, q⟩
  by_cases hj : j < i
  · rw [if_pos hj, if_pos hj]; exact ⟨_, rfl⟩
  · rw [if_neg hj, if_neg hj]; exact ⟨_, rfl⟩
end
end L2
namespace L2
open PySem PySem.Spec PyProof.Rows
structure ObjM (h : Heap) (x dx C : Addr) (mA : Str → Option Value) : Prop where
  obj : h.get? x = some (PySem.W.instObj C dx)
  ns : h.Ns1 dx mA
  ne : dx ≠ x
theorem lookIn_ns {h : Heap} {dx : Addr} {mA : Str → Option Value} (n : h.Ns1 dx mA) : ∃ od, h.get? dx = some od ∧ ∀ name, PySem.W.lookIn name od = some (mA name) := by
  obtain ⟨o, es, ep, ho, hd, hk, _, hm⟩ := n
  refine ⟨o, ho, fun name => ?_⟩
  have e := hm name
  unfold nsFind findBy at e
  rw [← Array.find?_toList] at e
  unfold PySem.W.lookIn
  rw [hd]
  dsimp only
  split
  · rename_i y q
    rw [q] at e
    exact congrArg some e
  · rename_i q
    rw [q] at e
    have a : es.toList.any (·.refKey) = false := by
      rw [List.any_eq_false]
      intro y hy
      obtain ⟨z, t, hkey⟩ := hk y (Array.mem_toList_iff.mp hy)
      simp [DictEntry.refKey, hkey]
    have a' : ¬ es.toList.any (·.refKey) = true := by rw [a]; exact Bool.false_ne_true
    rw [if_neg a']
    exact congrArg some e
theorem ObjM.look {h : Heap} {x dx C : Addr} {mA : Str → Option Value} (I : ObjM h x dx C mA) : ∃ od, PySem.W.InstAt h x (PySem.W.instObj C dx) C (some od) ∧ ∀ name, PySem.W.lookIn name od = some (mA name) :=
  let ⟨od, ho, hl⟩ := lookIn_ns I.ns
  ⟨od, ⟨I.obj, rfl, rfl, ho⟩, hl⟩
theorem RelO.some_of {v : V} {o : Option Value} (r : RelO (some v) o) : ∃ u, o = some u ∧ RelV v u := by
  cases o with
  | none => exact (show False from r).elim
  | some u => exact ⟨u, rfl, r⟩
theorem handed_of {v : V} {u : Value} (r : RelV v u) : PySem.W.handedIn u = true := by
  cases v with
  | non => cases (show u = Value.none from r); rfl
  | bl b => cases (show u = Value.bool b from r); rfl
  | int i => obtain ⟨t, e⟩ := (show ∃ t, u = Value.int i t from r); cases e; rfl
  | str x => obtain ⟨t, e⟩ := (show ∃ t, u = Value.str x t from r); cases e; rfl
  | byt b => obtain ⟨t, e⟩ := (show ∃ t, u = Value.bytes b t from r); cases e; rfl
  | flt b => obtain ⟨t, e⟩ := (show ∃ t, u = Value.float b t from r); cases e; rfl
  | ref a => cases (show u = Value.ref a from r); rfl
  | ty n => cases (show u = Value.type n from r); rfl
section
variable {P : Program} {w : World} {H H' : Hp} {h h' : Heap} {a C dx : Addr} {fs fs' : List (Str × V)}
theorem ins_get (hok : HOk P w H h) (e : H a = some (.ins C dx fs)) : ∃ mA, ObjM h a dx C mA ∧ (∀ f, RelO (fs.lookup f) (mA f)) ∧ PySem.Within mA (fs.map (·.1)) ∧ fs.length ≤ 1000 ∧ H dx = some (.own a) := by
  obtain ⟨d, z, ne, ob, mA, n, r, q⟩ := (show ObjOk P w H h a (.ins C dx fs) from hok a _ e)
  exact ⟨mA, ⟨ob, n, ne⟩, r, q, z, d⟩
end
structure Cls (K : PySem.W.Frag) (C : Addr) : Prop where
  pg : PySem.W.plainGet K C Str.empty = true
  hd : PySem.W.hasDictIn K C = true
  po : PySem.W.plainOver K C = true
  sa : PySem.W.findIn K (.ref C) "__setattr__" = some (some (.builtin "object.__setattr__"))
theorem Cls.get {K : PySem.W.Frag} {C : Addr} (c : Cls K C) (f : Str) : PySem.W.plainGet K C f = true := c.pg
structure Con (K : PySem.W.Frag) (C : Addr) (f : Str) (v : V) (u : Value) : Prop where
  at_ : PySem.W.findIn K (.ref C) f = some (some u)
  rel : RelV v u
  get : PySem.W.specialIn K u "__get__" = some none
  cp : PySem.W.copiedNames.contains f = false
structure Meth (K : PySem.W.Frag) (C : Addr) (m : Str) (f : Addr) : Prop where
  at_ : PySem.W.findIn K (.ref C) m = some (some (.ref f))
  fn : PySem.W.isFn K (.ref f) = true
  kp : PySem.W.keepIn K (.ref f) = true
section
variable {X : Cx} {pins : List (Addr × Obj)} {σ : St} {H : Hp} {s : Shared} {a C dx : Addr} {fs : List (Str × V)} {f : Str} {v : V} {A : Around} {E : Value → Shared → Prop}
theorem attr_of {prog : Program} {w : World} {env : Env} {e : Expr} {f : Str} {pos : Pos} {s : Shared} {Q : Value → Shared → Prop} (hb : attributeBase e f env (eval e env) = eval e env)
    (h : wpAny (model prog w) A (eval e env) (fun o s₁ => wpAny (model prog w) A (getAttr o f true) Q E s₁) E s) : wpAny (model prog w) A (eval (.Attribute e f pos) env) Q E s :=
  Attribute_any_ h (by rw [arm_eval_Attribute, hb])
end
section
variable {X : Cx} {pins : List (Addr × Obj)} {σ : St} {H : Hp} {s : Shared} {A : Around} {E : Value → Shared → Prop} {Q : Value → Shared → Prop} {c : Value} {b : Bool}
inductive TyOf (K : PySem.W.Frag) (H : Hp) : V → Value → Prop where
  | non : TyOf K H .non (.type "NoneType")
  | bl (x : Bool) : TyOf K H (.bl x) (.type "bool")
  | int (i : Int) : TyOf K H (.int i) (.type "int")
  | str (x : Str) : TyOf K H (.str x) (.type "str")
  | flt (x : UInt64) : TyOf K H (.flt x) (.type "float")
  | lst {a : Addr} {xs : List V} (e : H a = some (.lst xs)) : TyOf K H (.ref a) (.type "list")
  | frz {a : Addr} {o : Obj} {xs : List V} (e : H a = some (.frz o (.lst xs))) : TyOf K H (.ref a) (.type "list")
  | tup {a : Addr} {xs : List V} (e : H a = some (.tup xs)) : TyOf K H (.ref a) (.type "tuple")
  | dK {a : Addr} {kvs : List (Key × V)} (e : H a = some (.dK kvs)) : TyOf K H (.ref a) (.type "dict")
  | dT {a : Addr} {kvs : List (List Key × V)} (e : H a = some (.dT kvs)) : TyOf K H (.ref a) (.type "dict")
  | ins {a C dx : Addr} {fs : List (Str × V)} (e : H a = some (.ins C dx fs)) (cl : Cls K C) (ha : PySem.W.findIn K (.ref C) "__class__" = some (some (.builtin "object.__class__")))
      (hn : PySem.W.specialIn K (.builtin "object.__class__") "__get__" = some (some (.builtin "getset_descriptor.__get__"))) (htk : PySem.W.takesIn K (.builtin "object.__class__") = some true)
      (hm : PySem.W.mroIn K C (.type "object") = some true) : TyOf K H (.ref a) (.ref C)
theorem isinst_ok {x : V} {u t : Value} (I : Inv X pins σ H s) (rx : RelV x u) (ty : TyOf X.K H x t) (e : PySem.W.kitOne X.K t c = some b) (h : ∀ tk, Q (.bool b) { s with toks := tk }) :
    wpAny (model X.prog X.w) A (call (.builtin "isinstance") [u, c]) Q E s := by
  cases ty with
  | non => cases (show u = Value.none from rx); exact PySem.W.kia_one PySem.W.kitx_none I.kIn True.intro e (fun z => nomatch z) h
  | bl y => cases (show u = Value.bool y from rx); exact PySem.W.kia_one PySem.W.kitx_bool I.kIn True.intro e (fun z => nomatch z) h
  | int i => obtain ⟨t, q⟩ := (show ∃ t, u = Value.int i t from rx); cases q; exact PySem.W.kia_one PySem.W.kitx_int I.kIn True.intro e (fun z => nomatch z) h
  | str y => obtain ⟨t, q⟩ := (show ∃ t, u = Value.str y t from rx); cases q; exact PySem.W.kia_one PySem.W.kitx_str I.kIn True.intro e (fun z => nomatch z) h
  | flt y => obtain ⟨t, q⟩ := (show ∃ t, u = Value.float y t from rx); cases q; exact PySem.W.kia_one PySem.W.kitx_float I.kIn True.intro e (fun z => nomatch z) h
  | @lst a xs ea =>
    cases (show u = Value.ref a from rx)
    obtain ⟨_, _, n, _, h1⟩ := (show ObjOk X.prog X.w H s.heap a (.lst xs) from I.hok a _ ea)
    exact PySem.W.kia_one PySem.W.kitx_list I.kIn ⟨_, h1, rfl⟩ e (fun z => nomatch z) h
  | @frz a ob xs ea =>
    cases (show u = Value.ref a from rx)
    obtain ⟨_, _, _, n, _, h1⟩ := (show ObjOk X.prog X.w H s.heap a (.frz ob (.lst xs)) from I.hok a _ ea)
    exact PySem.W.kia_one PySem.W.kitx_list I.kIn ⟨_, h1, rfl⟩ e (fun z => nomatch z) h
  | @tup a xs ea =>
    cases (show u = Value.ref a from rx)
    obtain ⟨_, _, _, p⟩ := (show ObjOk X.prog X.w H s.heap a (.tup xs) from I.hok a _ ea)
    obtain ⟨o, h1, h2, _⟩ := p
    exact PySem.W.kia_one PySem.W.kitx_tuple I.kIn ⟨o, h1, h2⟩ e (fun z => nomatch z) h
  | @dK a kvs ea =>
    cases (show u = Value.ref a from rx)
    obtain ⟨_, _, vs, _, p⟩ := (show ObjOk X.prog X.w H s.heap a (.dK kvs) from I.hok a _ ea)
    obtain ⟨o, es, ep, h1, h2, _⟩ := p
    exact PySem.W.kia_one PySem.W.kitx_dict I.kIn ⟨o, h1, h2.1⟩ e (fun z => nomatch z) h
  | @dT a kvs ea =>
    cases (show u = Value.ref a from rx)
    obtain ⟨_, _, xs, _, o, es, ep, h1, h2, _⟩ := (show ObjOk X.prog X.w H s.heap a (.dT kvs) from I.hok a _ ea)
    exact PySem.W.kia_one PySem.W.kitx_dict I.kIn ⟨o, h1, h2.1⟩ e (fun z => nomatch z) h
  | @ins a C dx fs ea cl ha hn htk hm =>
    cases (show u = Value.ref a from rx)
    obtain ⟨mA, O, _⟩ := ins_get I.hok ea
    obtain ⟨od, J, _⟩ := O.look
    exact PySem.W.kia_one (PySem.W.kitx_own (cl.get _) cl.hd ha hn htk hm) I.kIn J e (fun z => nomatch z) h
end
end L2
namespace L2
open PySem PySem.Spec PyProof.Rows
structure Room (k : Nat) (A : Around) : Prop where
  hd : A.handled = none
  dp : A.depth + 3 * k + 5 < recursionLimit
  un : A.units + 16 * k + 200 < cLine
theorem Room.mono {j k : Nat} {A : Around} (r : Room k A) (h : j ≤ k) : Room j A := ⟨r.hd, by have := r.dp; omega, by have := r.un; omega⟩
theorem Room.deeper {k : Nat} {A : Around} (r : Room (k + 1) A) (env : Env) : Room k (A.deeper env) :=
  ⟨r.hd, by have := r.dp; show A.depth + 1 + 3 * k + 5 < _; omega, by have := r.un; show A.units + 3 + 16 * k + 200 < _; omega⟩
theorem Room.in1 {k : Nat} {A : Around} (r : Room (k + 1) A) : Room k A.in1 :=
  ⟨r.hd, by have := r.dp; show A.depth + 3 * k + 5 < _; omega, by have := r.un; show A.units + 1 + 16 * k + 200 < _; omega⟩
theorem make_depth {A : Around} {C : Addr} {us : List Value} {kw : List (Str × Value)} : (A.under (.builtin "type.__call__" ⟨.ref C :: us, kw⟩)).depth = A.depth + 1 := by
  first | rfl | simp [Around.under, Code.weight, Code.isCreation, Code.isGuard, Code.isCaller, Code.frames, Code.isFrame, guardIds]
theorem make_units {A : Around} {C : Addr} {us : List Value} {kw : List (Str × Value)} : (A.under (.builtin "type.__call__" ⟨.ref C :: us, kw⟩)).units = A.units + 1 := by
  first | rfl | simp [Around.under, Code.cUnits, Code.frames, Code.isFrame]
theorem Room.make {k : Nat} {A : Around} (r : Room (k + 1) A) (C : Addr) (us : List Value) (kw : List (Str × Value)) : Room k (A.under (.builtin "type.__call__" ⟨.ref C :: us, kw⟩)) :=
  ⟨r.hd, by have := r.dp; rw [make_depth]; omega, by have := r.un; rw [make_units]; omega⟩
theorem Room.depth {k : Nat} {A : Around} (r : Room k A) : A.depth < recursionLimit := by have := r.dp; omega
theorem Room.units {k : Nat} {A : Around} (r : Room k A) : A.units + 64 < cLine := by have := r.un; omega
def tNil : TA := fun _ H Q => Q [] H
def tCons (ta : TE) (tr : TA) : TA := fun σ H Q => ta σ H fun x H1 => tr σ H1 fun xs H2 => Q (x :: xs) H2
section
variable {X : Cx} {e : Expr} {es : List Expr} {te : TE} {t : TA} {pos : Pos}
theorem pa_nil : PA X [] tNil := fun _ _ _ _ H Q I h => Calls.spliced_nil ⟨[], H, I, .nil, h⟩
theorem pa_cons (ha : PE X e te) (hr : PA X es t) (hs : starEach (e :: es) X.env = (false, eval e X.env) :: starEach es X.env := by rfl) : PA X (e :: es) (tCons te t) := by
  intro pos pins s σ H Q I h
  rw [hs]
  show wpAny _ _ (spliced ((false, eval e X.env) :: backTo pos (starEach es X.env))) _ _ s
  refine Calls.spliced_cons (thn (ha pins s σ H _ I h) fun u s1 ⟨x, H1, I1, r1, q1⟩ => ?_)
  exact thn (hr pos pins s1 σ H1 _ I1 q1) fun us s2 ⟨xs, H2, I2, r2, q2⟩ => ⟨x :: xs, H2, I2, .cons r1 r2, q2⟩
def tLst (t : TA) : TE := fun σ H Q => t σ H fun xs H1 => xs.length ≤ sizeLine ∧ ∀ p, H1 p = none → Q (.ref p) (upd H1 p (.lst xs))
theorem pe_lst (h : PA X es t) : PE X (.List es pos) (tLst t) := by
  intro pins s σ H Q I hq
  refine wpAny_List_spliced (thn (h pos pins s σ H _ I hq) fun us s1 ⟨xs, H1, I1, r, z, q⟩ => ⟨by rw [← r.length]; exact z, ?_⟩)
  have hf : H1 s1.heap.objs.size = none := I1.hok.fresh (Nat.le_refl _)
  refine ⟨.ref s1.heap.objs.size, upd H1 s1.heap.objs.size (.lst xs), I1.laid (t' := s1.toks) (fun b u e => Heap.get?_push_of_some _ e) (Nat.le_refl _) ?_, rfl, q _ hf⟩
  exact ⟨z, us, 0, r, Heap.get?_push_size _ rfl⟩
end
abbrev Sp := List V → Hp → VK → XK → Prop
abbrev CXT := List Env → Hp → Shared → XK → Value → Shared → Prop
structure Env0 (P : Program) (w : World) (K : PySem.W.Frag) (mg : Str → Option Value) (base : Heap) (A : Around) (outer : List Env) (s : Shared) (H : Hp) : Prop where
  frames : A.frames = some outer
  mod : Mod K mg base
  bs : ∀ b o, base.get? b = some o → s.heap.get? b = some o ∧ H b = none
  bsz : base.objs.size ≤ s.heap.objs.size
  funs : s.heap.FunFrames base outer
  frf : ∀ b ∈ frs outer, H b = none
  hok : HOk P w H s.heap
  bare : AllBare s.gens
def CE (outer : List Env) (P : Program) (w : World) (H : Hp) (s : Shared) (Q : VK) (u : Value) (s' : Shared) : Prop :=
  ∃ v H', s'.os = s.os ∧ AllBare s'.gens ∧ Un (frs outer) [] H H' s.heap s'.heap ∧ HOk P w H' s'.heap ∧ RelV v u ∧ Q v H'
def CR (CX : CXT) (outer : List Env) (P : Program) (w : World) (H : Hp) (s : Shared) (Q : VK) (E : XK) (r : Result) (s' : Shared) : Prop :=
  match r with
  | .ok (.ret u) => CE outer P w H s Q u s'
  | .ok _ => False
  | .error e => CX outer H s E e s'
structure FnOk (P : Program) (w : World) (K : PySem.W.Frag) (mg : Str → Option Value) (base : Heap) (CX : CXT) (k : Nat) (f : Addr) (fd : FuncData) (ps : List Str) (sp : Sp) : Prop where
  len : ∀ vs H Q E, sp vs H Q E → vs.length = ps.length
  run : ∀ (A : Around) (outer : List Env) (s : Shared) (H : Hp) (args : Args) (us : List Value) (vs : List V) (Q : VK) (E : XK), Room k A → Env0 P w K mg base A outer s H → BindsTo s fd args (ps.zip us) → Vals vs us → sp vs H Q E →
    codeAny (model P w) A (.call (.ref f) args) (CR CX outer P w H s Q E) s
theorem FnOk.mono {P : Program} {w : World} {K : PySem.W.Frag} {mg : Str → Option Value} {base : Heap} {CX : CXT} {j k : Nat} {f : Addr} {fd : FuncData} {ps : List Str} {sp : Sp} (F : FnOk P w K mg base CX j f fd ps sp) (h : j ≤ k) :
    FnOk P w K mg base CX k f fd ps sp := ⟨F.len, fun A outer s H args us vs Q E hr => F.run A outer s H args us vs Q E (hr.mono h)⟩
theorem Env0.make {P : Program} {w : World} {K : PySem.W.Frag} {mg : Str → Option Value} {base : Heap} {A : Around} {outer : List Env} {s : Shared} {H : Hp} (e : Env0 P w K mg base A outer s H) (C : Addr) (us : List Value) (kw : List (Str × Value)) :
    Env0 P w K mg base (A.under (.builtin "type.__call__" ⟨.ref C :: us, kw⟩)) outer s H := ⟨by first | exact e.frames | (simpa [Around.under, Code.envs, Code.isFrame, pushEnvs] using e.frames), e.mod, e.bs, e.bsz, e.funs, e.frf, e.hok, e.bare⟩
theorem Env0.in1 {P : Program} {w : World} {K : PySem.W.Frag} {mg : Str → Option Value} {base : Heap} {A : Around} {outer : List Env} {s : Shared} {H : Hp} (e : Env0 P w K mg base A outer s H) :
    Env0 P w K mg base A.in1 outer s H := ⟨e.frames, e.mod, e.bs, e.bsz, e.funs, e.frf, e.hok, e.bare⟩
section
variable {X : Cx} {pins : List (Addr × Obj)} {σ : St} {H : Hp} {s s' : Shared}
theorem Inv.env0 (I : Inv X pins σ H s) : Env0 X.prog X.w X.K X.mg X.base X.A X.stack s H :=
  ⟨I.ok.frames, I.ok.mod, I.bs, Nat.le_trans I.ok.bsz I.sz, I.stack, I.stkFree, I.hok, I.bare⟩
theorem Inv.after {Q : VK} {u : Value} (I : Inv X pins σ H s) (h : CE X.stack X.prog X.w H s Q u s') : EP X pins σ Q u s' := by
  obtain ⟨v, H', os, bare, un, hok, r, q⟩ := h
  obtain ⟨hh, g, d, t, os'⟩ := s'
  obtain rfl : os' = s.os := os
  exact ⟨v, H', I.call (h' := hh) (g' := g) (d' := d) (t' := t) (ch := []) un hok bare (fun b z => absurd z (by simp)), r, q⟩
end
def tCall (sp : Sp) (dvs : List V) (E : XK) (t : TA) : TE := fun σ H Q => t σ H fun vs H1 => sp (vs ++ dvs) H1 Q E
def Binds (K : PySem.W.Frag) (fd : FuncData) (ps : List Str) (ds : List Value) : Prop :=
  ∀ (s : Shared) (us : List Value), K.In s.heap → (us ++ ds).length = ps.length → BindsTo s fd ⟨us, []⟩ (ps.zip (us ++ ds))
theorem Binds.all {K : PySem.W.Frag} {fd : FuncData} {ps : List Str} (h : ∀ us : List Value, us.length = ps.length → bindArgs fd ⟨us, []⟩ = pure (ps.zip us)) : Binds K fd ps [] := fun s us _ hl => by
  rw [List.append_nil] at hl ⊢
  exact .of_eq (h us hl)
def Passes (CX : CXT) (X : Cx) (E : XK) : Prop := ∀ (pins : List (Addr × Obj)) (σ : St) (H : Hp) (s : Shared) (e : Value) (s' : Shared), Inv X pins σ H s → CX X.stack H s E e s' → X.xe e s'
section
variable {X : Cx} {CX : CXT} {k : Nat} {f C : Addr} {fd : FuncData} {ps : List Str} {sp : Sp} {dvs : List V} {ds : List Value} {E : XK} {x m : Str} {p pos apos : Pos} {e o : Expr} {es : List Expr} {ta : TE} {t : TA}
theorem run_fn {pins : List (Addr × Obj)} {σ : St} {H : Hp} {s : Shared} {Q : VK} {us : List Value} {vs : List V} (F : FnOk X.prog X.w X.K X.mg X.base CX k f fd ps sp) (hr : Room k X.A) (hb : Binds X.K fd ps ds) (hd : Vals dvs ds) (hx : Passes CX X E)
    (I : Inv X pins σ H s) (r : Vals vs us) (h : sp (vs ++ dvs) H Q E) : wpAny (model X.prog X.w) X.A (call (.ref f) us) (EP X pins σ Q) X.xe s := by
  have r2 : Vals (vs ++ dvs) (us ++ ds) := r.append hd
  have hl : (us ++ ds).length = ps.length := by rw [← r2.length]; exact F.len _ _ _ _ h
  refine wpAny_call (codeAny_mono (F.run X.A X.stack s H ⟨us, []⟩ (us ++ ds) (vs ++ dvs) Q E hr I.env0 (hb s us I.kIn hl) r2 h) fun r s' hq => ?_)
  cases r with
  | error e => exact hx pins σ H s e s' I hq
  | ok fl =>
    cases fl with
    | ret u => exact I.after hq
    | next => exact False.elim hq
    | brk => exact False.elim hq
    | cont => exact False.elim hq
theorem pe_call (F : FnOk X.prog X.w X.K X.mg X.base CX k f fd ps sp) (hr : Room k X.A) (hg : Gl X x) (hm : X.mg x = some (.ref f)) (hk : PySem.W.keepIn X.K (.ref f) = true) (hb : Binds X.K fd ps ds) (hd : Vals dvs ds) (hx : Passes CX X E)
    (ha : PA X (e :: es) t) (hdb : (x == ("__debug__" : Str)) = false := by decide) (he : starEach (e :: es) X.env = (false, eval e X.env) :: starEach es X.env := by rfl) (hpl : (backTo pos (starEach es X.env)).any (·.1) = false := by rfl) :
    PE X (.Call (.Name x p) (e :: es) [] pos) (tCall sp dvs E t) := by
  intro pins s σ H Q I h
  refine wpAny_Call_Name_kw (ld_glob I hg hm ?_ hdb)
  refine PySem.W.callWith_K (h₀ := X.base) I.ok.mod.kin hk (thn (ha pos pins s σ H _ I h) fun us s1 ⟨vs, H1, I1, r, q⟩ => ⟨I1.kIn, ?_⟩) he hpl
  exact run_fn F hr hb hd hx I1 r q
structure Mk (K : PySem.W.Frag) (C f : Addr) : Prop where
  makes : PySem.W.makesIn K C = true
  init : PySem.W.findIn K (.ref C) "__init__" = some (some (.ref f))
  fn : PySem.W.isFn K (.ref f) = true
  kp : PySem.W.keepIn K (.ref C) = true
end
section
variable {X : Cx} {CX : CXT} {k : Nat} {f C : Addr} {fd : FuncData} {ps ks : List Str} {sp : Sp} {E : XK} {x m : Str} {p pos apos kpos : Pos} {e o : Expr} {es : List Expr} {kws : List Keyword} {te ta : TE} {t tk : TA} {nm : Option Str}
structure KBinds (K : PySem.W.Frag) (fd : FuncData) (ps ks : List Str) (g : List Value → List Value → List Value) (gV : List V → List V → List V) : Prop where
  to : ∀ (s : Shared) (us ws : List Value), K.In s.heap → (g us ws).length = ps.length → BindsTo s fd ⟨us, ks.zip ws⟩ (ps.zip (g us ws))
  rel : ∀ {vs : List V} {us : List Value} {zs : List V} {ws : List Value}, Vals vs us → Vals zs ws → Vals (gV vs zs) (g us ws)
variable {g : List Value → List Value → List Value} {gV : List V → List V → List V}
end
structure FnScope (N P : List Str) (sc : Scope) : Prop where
  kind : sc.kind = .function
  co : sc.isCoroutine = false
  gen : sc.isGenerator = false
  nd : N.Nodup
  pre : N.take P.length = P
  par : ∀ x ∈ P, sc.names.lookup x = some .local ∨ sc.names.lookup x = some .cell
  nofree : ∀ y ∈ sc.names, y.2 ≠ .free
theorem bindL_out {kindOf : Str → Option NameKind} {x : Str} : ∀ {binds : List (Str × Value)} {m : Str → Option Value}, (∀ v, (x, v) ∉ binds) → bindL kindOf binds m x = m x
  | [], _, _ => rfl
  | (n, v) :: r, m, h => by
    unfold bindL
    rw [bindL_out fun w hw => h w (List.mem_cons_of_mem _ hw)]
    split
    · have : x ≠ n := by rintro rfl; exact h v List.mem_cons_self
      simp [this]
    · rfl
theorem bindC_out {kindOf : Str → Option NameKind} {x : Str} : ∀ {binds : List (Str × Value)} {m : Str → Option Value}, (∀ v, (x, v) ∉ binds) → bindC kindOf binds m x = m x
  | [], _, _ => rfl
  | (n, v) :: r, m, h => by
    unfold bindC
    rw [bindC_out fun w hw => h w (List.mem_cons_of_mem _ hw)]
    split
    · rfl
    · have : x ≠ n := by rintro rfl; exact h v List.mem_cons_self
      simp [this]
theorem bindL_get {kindOf : Str → Option NameKind} {x : Str} {v : Value} : ∀ {P : List Str} {vs : List Value} {i : Nat} {m : Str → Option Value}, P.Nodup → P[i]? = some x → vs[i]? = some v → kindOf x = some .local →
    bindL kindOf (P.zip vs) m x = some v
  | [], _, _, _, _, h, _, _ => by simp at h
  | _ :: _, [], _, _, _, _, h, _ => by simp at h
  | p :: P, w :: vs, 0, m, nd, h1, h2, hk => by
    simp at h1 h2; subst h1; subst h2
    show bindL kindOf ((p, w) :: P.zip vs) m p = _
    unfold bindL
    rw [bindL_out fun v hv => (List.nodup_cons.mp nd).1 (List.of_mem_zip hv).1, if_pos hk]
    simp
  | p :: P, w :: vs, i + 1, m, nd, h1, h2, hk => by
    show bindL kindOf ((p, w) :: P.zip vs) m x = _
    unfold bindL
    exact bindL_get (i := i) (List.nodup_cons.mp nd).2 (by simpa using h1) (by simpa using h2) hk
theorem bindC_get {kindOf : Str → Option NameKind} {x : Str} {v : Value} : ∀ {P : List Str} {vs : List Value} {i : Nat} {m : Str → Option Value}, P.Nodup → P[i]? = some x → vs[i]? = some v → kindOf x ≠ some .local →
    bindC kindOf (P.zip vs) m x = some v
  | [], _, _, _, _, h, _, _ => by simp at h
  | _ :: _, [], _, _, _, _, h, _ => by simp at h
  | p :: P, w :: vs, 0, m, nd, h1, h2, hk => by
    simp at h1 h2; subst h1; subst h2
    show bindC kindOf ((p, w) :: P.zip vs) m p = _
    unfold bindC
    rw [bindC_out fun v hv => (List.nodup_cons.mp nd).1 (List.of_mem_zip hv).1, if_neg hk]
    simp
  | p :: P, w :: vs, i + 1, m, nd, h1, h2, hk => by
    show bindC kindOf ((p, w) :: P.zip vs) m x = _
    unfold bindC
    exact bindC_get (i := i) (List.nodup_cons.mp nd).2 (by simpa using h1) (by simpa using h2) hk
def start (N : List Str) (vs : List V) : St := vs.map some ++ List.replicate (N.length - vs.length) none
def cxOf (CX : CXT) (P : Program) (w : World) (K : PySem.W.Frag) (mg : Str → Option Value) (base : Heap) (N : List Str) (qual : Str) (scope : Scope) (f : Addr) (cd : Value) (A : Around) (outer : List Env) (s : Shared) (H : Hp) (E : XK) : Cx where
  prog := P
  w := w
  K := K
  mg := mg
  base := base
  A := A.deeper (envOfC qual scope s.heap.objs.size f cd)
  N := N
  s₀ := s
  H₀ := H
  env := envOfC qual scope s.heap.objs.size f cd
  outer := outer
  stack := envOfC qual scope s.heap.objs.size f cd :: outer
  ex := []
  calm := true
  fn := fun _ => true
  pn := []
  xe := fun e s' => wpAny (model P w) (A.deeper (envOfC qual scope s.heap.objs.size f cd)) (leaving (envOfC qual scope s.heap.objs.size f cd) e) (fun _ s'' => CX outer H s E e s'') (fun e' s'' => CX outer H s E e' s'') s'
theorem cell_has {sc : Scope} {n : Nat} {x : Str} (h : sc.names.lookup x = some .cell) : ∃ c, (cellsFrom n sc.names []).lookup x = some c := by
  have q := PySem.W.cellsFrom_some sc.names n [] (.inl h)
  exact Option.isSome_iff_exists.mp q
theorem inv_start {CX : CXT} {P : Program} {w : World} {K : PySem.W.Frag} {mg : Str → Option Value} {base : Heap} {N ps : List Str} {qual : Str} {scope : Scope} {f : Addr} {cd : Value} {A : Around} {outer : List Env} {s s1 : Shared} {H : Hp} {E : XK} {us : List Value} {vs : List V}
    (S : FnScope N ps scope) (hd : A.handled = none) (e0 : Env0 P w K mg base A outer s H) (hl : vs.length = ps.length) (r : Vals vs us)
    (x : InCallC s s.heap.objs.size (bindL (envOfC qual scope s.heap.objs.size f cd).kindOf (ps.zip us) fun _ => none) (cellsFrom (s.heap.objs.size + 1) scope.names []) (bindC (envOfC qual scope s.heap.objs.size f cd).kindOf (ps.zip us) fun _ => none) s1) :
    Inv (cxOf CX P w K mg base N qual scope f cd A outer s H E) [] (start N vs) H s1 := by
  have hpl : ps.length ≤ N.length := by have := congrArg List.length S.pre; rw [List.length_take] at this; omega
  obtain ⟨h1, tk, rfl, hk⟩ := x.done
  have noA : ∀ b : Addr, b ∉ (cxOf CX P w K mg base N qual scope f cd A outer s H E).ex := fun b z => absurd (show b ∈ ([] : List Addr) from z) (by simp)
  refine ⟨⟨e0.mod, S.kind, rfl, rfl, Nat.le_refl _, fun y z c h1 h2 => ?_, fun y hy => ?_, fun y c _ h => ?_, fun _ => hd, Around.frames_deeper e0.frames, .inr ⟨rfl, rfl⟩, fun b z => absurd z (noA b), e0.bs, e0.bsz, fun b _ _ => noA b, fun b z => absurd z (noA b), e0.funs, e0.frf⟩,
    rfl, e0.bare, Un.kept hk, ⟨_, x.toInCall.ns, fun i y v h1 h2 h3 => ?_⟩, fun y c h => ⟨_, x.cell y c h⟩, e0.hok.fresh (Nat.le_refl _), fun y c h => ?_, fun p hp => absurd (show p ∈ ([] : List (Addr × Obj)) from hp) (by simp), e0.hok.kept hk, ?_⟩
  · exact name_of_addr x.apart (PySem.mem_of_lookup h1) (PySem.mem_of_lookup h2)
  · have hy : scope.names.lookup y = some .cell ∨ scope.names.lookup y = some .free := hy
    rcases hy with hy | hy
    · exact cell_has hy
    · exact absurd rfl (S.nofree _ (PySem.mem_of_lookup hy))
  · exact Nat.le_of_lt (x.above y c (PySem.mem_of_lookup h))
  · have hi : i < vs.length := by
      unfold start at h2
      by_cases hi : i < vs.length
      · exact hi
      · rw [List.getElem?_append_right (by simpa using hi)] at h2
        rw [List.getElem?_replicate] at h2
        split at h2 <;> cases h2
    have ha : vs[i]? = some v := by
      unfold start at h2
      rw [List.getElem?_append_left (by simpa using hi), List.getElem?_map] at h2
      cases e : vs[i]? with
      | none => rw [e] at h2; cases h2
      | some a => rw [e] at h2; cases h2; rfl
    obtain ⟨u, hu, rv⟩ := r.get ha
    have hp : ps[i]? = some y := by
      rw [← S.pre, List.getElem?_take_of_lt (by omega)]; exact h1
    have ndP : ps.Nodup := by rw [← S.pre]; exact S.nd.sublist (List.take_sublist _ _)
    refine ⟨u, rv, ?_⟩
    rcases S.par y (List.mem_of_getElem? hp) with k | k
    · exact .inl ⟨k, bindL_get ndP hp hu k⟩
    · obtain ⟨c, e⟩ := cell_has (n := s.heap.objs.size + 1) k
      refine .inr ⟨.inl k, c, e, ?_⟩
      have q := x.cell y c e
      rw [bindC_get ndP hp hu (by show scope.names.lookup y ≠ _; rw [k]; decide)] at q
      exact q
  · exact e0.hok.fresh (Nat.le_of_lt (x.above y c (PySem.mem_of_lookup h)))
  · unfold start
    show _ = N.length
    rw [List.length_append, List.length_map, List.length_replicate]
    omega
theorem fn_of {CX : CXT} {P : Program} {w : World} {K : PySem.W.Frag} {mg : Str → Option Value} {base : Heap} {k : Nat} {f : Addr} {name qual : Str} {params : Arguments} {body : List Stmt} {scope : Scope} {dV kV doc pm cdv ct oc : Value} {an od : Option Addr}
    {osl : Array (Option Value)} {N ps : List Str} {sp : Sp} (lk : K.lookup f = some ⟨oc, od, .func (PySem.W.fnOf name qual params body scope dV kV doc pm an cdv ct), osl⟩) (hcd : PySem.W.codeIn K cdv qual = true) (S : FnScope N ps scope)
    (len : ∀ vs H Q E, sp vs H Q E → vs.length = ps.length)
    (hbody : ∀ (A : Around) (outer : List Env) (s : Shared) (H : Hp) (vs : List V) (Q : VK) (E : XK), Room k (A.deeper (envOfC qual scope s.heap.objs.size f cdv)) → sp vs H Q E →
      ∃ t, PSs (cxOf CX P w K mg base N qual scope f cdv A outer s H E) body t ∧ t { nx := fun _ H' => Q .non H', rt := Q } (start N vs) H) :
    FnOk P w K mg base CX (k + 1) f (PySem.W.fnOf name qual params body scope dV kV doc pm an cdv ct) ps sp := by
  refine ⟨len, fun A outer s H args us vs Q E hr e0 hb r hsp => ?_⟩
  have hl := len _ _ _ _ hsp
  have KX : K.In s.heap := e0.mod.kin.keeps fun b o e => (e0.bs b o e).1
  have lim : s.heap.NoLimit := e0.mod.nolimit.keeps fun b o e => (e0.bs b o e).1
  have hkind : ∀ y ∈ ps.zip us, scope.names.lookup y.1 = some .local ∨ (scope.names.lookup y.1 = some .cell ∧ ((cellsFrom (s.heap.objs.size + 1) scope.names []).lookup y.1).isSome = true) := fun ⟨n, v⟩ hy => by
    rcases S.par n (List.of_mem_zip hy).1 with q | q
    · exact .inl q
    · exact .inr ⟨q, PySem.W.cellsFrom_some _ _ _ (.inl q)⟩
  refine codeAny_call_function hr.depth (KX _ _ lk) rfl S.co S.gen rfl (PySem.W.codeRec_of KX hcd) (hb _ _ _ _ ?_)
  refine wpAny_newFunctionEnv_cells S.kind hkind fun env he s1 x => ?_
  subst he
  refine ⟨lim.keeps x.toInCall.keep, codeAny_func ?_⟩
  obtain ⟨t, ht, hq⟩ := hbody A outer s H vs Q E (hr.deeper _) hsp
  have I : Inv (cxOf CX P w K mg base N qual scope f cdv A outer s H E) [] (start N vs) H s1 := inv_start S hr.hd e0 hl r x
  refine wpAny_mono (ht [] s1 (start N vs) H _ I hq) (fun fl s' hs => ?_) fun e s' hs => hs
  have fin : ∀ {σ' : St} {H' : Hp} {v : V} {u : Value}, Inv (cxOf CX P w K mg base N qual scope f cdv A outer s H E) [] σ' H' s' → RelV v u → Q v H' → CE outer P w H s Q u s' :=
    fun {σ' H' v u} J rv q => ⟨v, H', J.os, J.bare, J.base, J.hok, rv, q⟩
  cases fl with
  | ret u =>
    obtain ⟨v, σ', H', J, rv, q⟩ := hs
    exact fin J rv q
  | next =>
    obtain ⟨σ', H', J, q⟩ := hs
    exact fin (v := V.non) (u := Value.none) J rfl q
  | brk =>
    obtain ⟨_, _, _, q⟩ := hs
    exact False.elim q
  | cont =>
    obtain ⟨_, _, _, q⟩ := hs
    exact False.elim q
end L2
namespace L2
open PySem PySem.Spec PyProof.Rows
section
variable {X : Cx} {x : Str} {p pos : Pos} {e : Expr} {es : List Expr} {t : TA} {id T : String} {r : List V → Hp → VK → Prop}
def tCB (r : List V → Hp → VK → Prop) (t : TA) : TE := fun σ H Q => t σ H fun vs H1 => r vs H1 Q
theorem pe_callB (hc : CallR X (.builtin id) r) (hg : Gl X x) (hm : X.mg x = none) (hv : bootBuiltins x = some (.builtin id)) (ha : PA X (e :: es) t) (hn : x ≠ "__name__" := by decide) (hdb : (x == ("__debug__" : Str)) = false := by decide)
    (he : starEach (e :: es) X.env = (false, eval e X.env) :: starEach es X.env := by rfl) (hpl : (backTo pos (starEach es X.env)).any (·.1) = false := by rfl) : PE X (.Call (.Name x p) (e :: es) [] pos) (tCB r t) := by
  intro pins s σ H Q I h
  refine wpAny_Call_Name_kw (ld_blt I hg hm hv ?_ hn hdb)
  exact PyProof.Rows.callWith_builtin1 (thn (ha pos pins s σ H _ I h) fun us s1 ⟨vs, H1, I1, r1, q1⟩ => hc pins s1 σ H1 vs us Q I1 r1 q1) he hpl
theorem pe_callTy (hc : CallR X (.type T) r) (hg : Gl X x) (hm : X.mg x = none) (hv : bootBuiltins x = some (.type T)) (ha : PA X (e :: es) t) (hn : x ≠ "__name__" := by decide) (hdb : (x == ("__debug__" : Str)) = false := by decide)
    (he : starEach (e :: es) X.env = (false, eval e X.env) :: starEach es X.env := by rfl) (hpl : (backTo pos (starEach es X.env)).any (·.1) = false := by rfl) : PE X (.Call (.Name x p) (e :: es) [] pos) (tCB r t) := by
  intro pins s σ H Q I h
  refine wpAny_Call_Name_kw (ld_blt I hg hm hv ?_ hn hdb)
  exact PyProof.Rows.callWith_type1 (thn (ha pos pins s σ H _ I h) fun us s1 ⟨vs, H1, I1, r1, q1⟩ => hc pins s1 σ H1 vs us Q I1 r1 q1) he hpl
end
end L2
namespace HT
open PySem PyProof.Rows
section
open PySem.SeqAt
open PySem.AutoSeq1 (wpAny_loadPart')
open PySem.MeetsSeq PySem.MeetsSeq2 PySem.MeetsSeq3
end
section
variable {prog : Program} {w : World} {A : Around} {E : Value → Shared → Prop} {s : Shared}
theorem cat_tup {t b : Addr} {vs ws : List Value} {Q : Value → Shared → Prop} (ht : IsTup s.heap t vs.toArray) (hb : IsTup s.heap b ws.toArray) (hv : vs ≠ [])
    (h1 : ws = [] → Q (.ref t) s) (h2 : ws ≠ [] → Q (.ref s.heap.objs.size) { s with heap := s.heap.push { cls := .type "tuple", data := .seq (vs ++ ws).toArray } })
    (hsz : vs.length + ws.length ≤ sizeLine) : wpAny (model prog w) A (binaryOp .Add (.ref t) (.ref b)) Q E s := by
  obtain ⟨⟨cls, dd, data, sl⟩, ho, hc, n, hd⟩ := id ht
  obtain ⟨⟨cls2, dd2, data2, sl2⟩, ho2, hc2, n2, hd2⟩ := id hb
  simp only at hc hd hc2 hd2
  subst hc hd hc2 hd2
  have e : vs.toArray ++ ws.toArray = (vs ++ ws).toArray := by simp
  by_cases hw : ws = []
  · exact concat_meets ⟨_, ho, rfl⟩ ⟨_, ho2, rfl⟩ noFill_tuple_add seq_tuple_add PySem.F.slot_tuple_add PySem.F.entry_tuple_add (PySem.F.args_tuple_add_2 _ _)
      (tuple_addW1 t b vs.toArray ws.toArray n n2 dd dd2 sl sl2 (by simpa using hv) (by simp [hw])) ⟨ho, ho2, h1 hw⟩
  · refine concat_meets ⟨_, ho, rfl⟩ ⟨_, ho2, rfl⟩ noFill_tuple_add seq_tuple_add PySem.F.slot_tuple_add PySem.F.entry_tuple_add (PySem.F.args_tuple_add_2 _ _)
      (tuple_addW2 t b vs.toArray ws.toArray n n2 dd dd2 sl sl2 (by simpa using hv) (by simpa using hw) (by rw [List.size_toArray, List.size_toArray]; exact hsz)) ⟨ho, ho2, ?_⟩
    rw [e]
    exact h2 hw
def sIx (n d : Nat) : Option Int → Nat
  | none => d
  | some v => if v < 0 then (v + (n : Int)).toNat else min v.toNat n
theorem sIx_none (n d : Nat) : sIx n d none = d := rfl
theorem sIx_nat (n d k : Nat) : sIx n d (some (k : Int)) = min k n := by
  show (if (k : Int) < 0 then ((k : Int) + (n : Int)).toNat else min (k : Int).toNat n) = min k n
  rw [if_neg (by omega), Int.toNat_natCast]
end
end HT
namespace L2
open PySem PySem.Spec PyProof.Rows
abbrev TO := St → Hp → (Option Int → Hp → Prop) → Prop
def PO (X : Cx) (e : Option Expr) (t : TO) : Prop :=
  ∀ (pins : List (Addr × Obj)) (s : Shared) (σ : St) (H : Hp) (Q : Option Int → Hp → Prop), Inv X pins σ H s → t σ H Q →
    wpAny (model X.prog X.w) X.A (evalPart e X.env) (fun u s' => ∃ o H', Inv X pins σ H' s' ∧ IsPart u o ∧ Q o H') X.xe s
def tNoPart : TO := fun _ H Q => Q none H
def tPart (t : TE) : TO := fun σ H Q => t σ H fun x H1 => ∃ i, x = .int i ∧ Q (some i) H1
theorem intsAre_of {ns : List Int} : ∀ {us : List Value}, Vals (ns.map V.int) us → IntsAre us ns := by
  induction ns with
  | nil => intro us r; rw [List.map_nil] at r; cases r; exact .nil
  | cons n ns ih =>
    intro us r
    rw [List.map_cons] at r
    cases r with
    | cons r1 r2 =>
      obtain ⟨t, e⟩ := r1
      subst e
      exact .cons n t (ih r2)
section
variable {X : Cx} {e : Expr} {te : TE} {lo hi : Option Expr} {tl th : TO} {pos p2 : Pos}
theorem po_none : PO X none tNoPart := by
  intro pins s σ H Q I h
  rw [evalPart_none]
  exact wpAny_pure ⟨none, H, I, .none, h⟩
theorem po_some (h : PE X e te) : PO X (some e) (tPart te) := by
  intro pins s σ H Q I hw
  rw [evalPart_some]
  refine thn (h pins s σ H _ I hw) fun u s1 ⟨x, H1, I1, r1, q1⟩ => ?_
  obtain ⟨i, rfl, q⟩ := q1
  obtain ⟨t, rfl⟩ := r1
  exact ⟨some i, H1, I1, .int i t, q⟩
def SlR (X : Cx) (r : V → Option Int → Option Int → Hp → VK → Prop) : Prop :=
  ∀ (pins : List (Addr × Obj)) (s : Shared) (σ : St) (H : Hp) (x : V) (v vl vu : Value) (lo hi : Option Int) (sl : Addr) (Q : VK), Inv X pins σ H s → RelV x v → s.heap.IsSliceOf sl vl vu .none → IsPart vl lo → IsPart vu hi → r x lo hi H Q →
    ∃ T id, typeLookup (.type T) "__getitem__" = pure (some (.builtin id)) ∧ s.TypeIs v T ∧ wpAny (model X.prog X.w) X.A (getItem v (.ref sl)) (EP X pins σ Q) X.xe s
def tSl (r : V → Option Int → Option Int → Hp → VK → Prop) (te : TE) (tl th : TO) : TE := fun σ H Q => te σ H fun x H1 => tl σ H1 fun l H2 => th σ H2 fun u H3 => r x l u H3 Q
theorem pe_slice {r : V → Option Int → Option Int → Hp → VK → Prop} (hr : SlR X r) (he : PE X e te) (hl : PO X lo tl) (hu : PO X hi th) : PE X (.Subscript e (.Slice lo hi none p2) pos) (tSl r te tl th) := by
  intro pins s σ H Q I h
  refine Subscript_ (thn (he pins s σ H _ I h) fun v s1 ⟨x, H1, I1, r1, q1⟩ => ?_)
  refine wpAny_Slice (thn (hl pins s1 σ H1 _ I1 q1) fun vl s2 ⟨l, H2, I2, pl, q2⟩ => thn (hu pins s2 σ H2 _ I2 q2) fun vu s3 ⟨u, H3, I3, pu, q3⟩ => ?_)
  rw [evalPart_none]
  refine wpAny_pure ?_
  have I4 : Inv X pins σ H3 { s3 with heap := s3.heap.push { cls := .type "slice", data := .fields #[vl, vu, .none] } } := I3.kept (t' := s3.toks) fun b ob q => Heap.get?_push_of_some _ q
  obtain ⟨T, id, hT, ht, hg⟩ := hr pins { s3 with heap := s3.heap.push { cls := .type "slice", data := .fields #[vl, vu, .none] } } σ H3 x v vl vu l u s3.heap.objs.size Q I4 r1 (Heap.IsSliceOf.new ..) pl pu q3
  show wpAny (model X.prog X.w) X.A (subscriptTail e (.Slice lo hi none p2) v (.ref s3.heap.objs.size)) (EP X pins σ Q) X.xe { s3 with heap := s3.heap.push { cls := .type "slice", data := .fields #[vl, vu, .none] } }
  exact tail_any (ops := [.ref s3.heap.objs.size, v]) ht hT hg (by with_unfolding_all rfl)
def cutV (xs : List V) (lo hi : Option Int) : List V := (xs.drop (HT.sIx xs.length 0 lo)).take (HT.sIx xs.length xs.length hi - HT.sIx xs.length 0 lo)
theorem cutV_length (xs : List V) (lo hi : Option Int) : (cutV xs lo hi).length ≤ xs.length := by
  unfold cutV
  rw [List.length_take, List.length_drop]
  omega
def rCatT (K : PySem.W.Frag) : R2 := fun x y H Q => ∃ a b xs ys, x = .ref a ∧ y = .ref b ∧ SqT K H a xs ∧ SqT K H b ys ∧ xs ≠ [] ∧ xs.length + ys.length ≤ sizeLine ∧
  (ys = [] → Q (.ref a) H) ∧ (ys ≠ [] → ∀ p, H p = none → Q (.ref p) (upd H p (.tup (xs ++ ys))))
theorem Vals.nil_iff {xs : List V} {us : List Value} (r : Vals xs us) : us = [] ↔ xs = [] := by
  cases r with
  | nil => simp
  | cons _ _ => simp
theorem op_catT : OpR X (binaryOp .Add) (rCatT X.K) := by
  intro pins s σ H x y v u Q I rx ry h
  obtain ⟨a, b, xs, ys, rfl, rfl, ha, hb, hx, hz, q1, q2⟩ := h
  cases rx
  cases ry
  obtain ⟨its, r1, p1, _⟩ := I.tuple ha
  obtain ⟨its2, r2, p2, _⟩ := I.tuple hb
  refine HT.cat_tup p1 p2 (fun z => hx (r1.nil_iff.mp z)) (fun z => ⟨.ref a, H, I, rfl, q1 (r2.nil_iff.mp z)⟩) (fun z => ?_) (by rw [← r1.length, ← r2.length]; exact hz)
  refine ⟨.ref s.heap.objs.size, _, I.laid (t' := s.toks) (o := .tup (xs ++ ys)) (fun b ob q => Heap.get?_push_of_some _ q) (Nat.le_refl _) ?_, rfl, q2 (fun w => z (r2.nil_iff.mpr w)) _ (I.hok.fresh (Nat.le_refl _))⟩
  exact ⟨by rw [List.length_append]; exact hz, _, r1.append r2, IsTup.new _ _⟩
end
end L2
namespace L2
open PySem PySem.Spec PyProof.Rows
def ixN (n : Nat) (i : Int) : Option Nat := if 0 ≤ i then (if i < n then some i.toNat else none) else if -(n : Int) ≤ i then some (i + n).toNat else none
def atI {α : Type} (xs : List α) (i : Int) : Option α := (ixN xs.length i).bind fun j => xs[j]?
theorem ixN_seq {n : Nat} {i : Int} {j : Nat} (h : ixN n i = some j) : seqIndex? i n = some j ∧ j < n ∧ -(n : Int) ≤ i ∧ i < n := by
  unfold ixN at h
  by_cases h0 : 0 ≤ i
  · rw [if_pos h0] at h
    by_cases h1 : i < n
    · rw [if_pos h1] at h
      have e : i.toNat = j := Option.some.inj h
      exact ⟨by rw [seqIndex_of h0 h1, e], by omega, by omega, h1⟩
    · rw [if_neg h1] at h; cases h
  · rw [if_neg h0] at h
    by_cases h1 : -(n : Int) ≤ i
    · rw [if_pos h1] at h
      have e : (i + n).toNat = j := Option.some.inj h
      exact ⟨by rw [seqIndex_neg (by omega) h1, e], by omega, h1, by omega⟩
    · rw [if_neg h1] at h; cases h
theorem atI_get {α : Type} {xs : List α} {i : Int} {v : α} (h : atI xs i = some v) : ∃ j, seqIndex? i xs.length = some j ∧ xs[j]? = some v ∧ j < xs.length ∧ -(xs.length : Int) ≤ i ∧ i < xs.length := by
  unfold atI at h
  cases e : ixN xs.length i with
  | none => rw [e] at h; cases h
  | some j =>
    rw [e] at h
    obtain ⟨h1, h2, h3, h4⟩ := ixN_seq e
    exact ⟨j, h1, h, h2, h3, h4⟩
theorem atI_nat {α : Type} {xs : List α} {j : Nat} {v : α} (h : xs[j]? = some v) : atI xs (j : Int) = some v := by
  have hj : j < xs.length := (List.getElem?_eq_some_iff.mp h).1
  have e : ixN xs.length (j : Int) = some j := by
    unfold ixN
    rw [if_pos (by omega), if_pos (by omega)]; simp
  unfold atI; rw [e]; exact h
def PlainIx (b : Expr) : Prop := ∀ o i, subscripted b false o i = operate [o, i] (getItem o i)
def IxR (X : Cx) (r : R2) : Prop :=
  ∀ (value slice : Expr) (pins : List (Addr × Obj)) (s : Shared) (σ : St) (H : Hp) (x y : V) (v u : Value) (Q : VK), Inv X pins σ H s → RelV x v → RelV y u → r x y H Q →
    subscripted slice false v u = operate [v, u] (getItem v u) → wpAny (model X.prog X.w) X.A (subscriptTail value slice v u) (EP X pins σ Q) X.xe s
def MtR (X : Cx) (id : String) (r : V → List V → Hp → VK → Prop) : Prop :=
  ∀ (pins : List (Addr × Obj)) (s : Shared) (σ : St) (H : Hp) (x : V) (xs : List V) (v : Value) (us : List Value) (Q : VK), Inv X pins σ H s → RelV x v → Vals xs us → r x xs H Q →
    wpAny (model X.prog X.w) X.A (call (.builtin id) (v :: us)) (EP X pins σ Q) X.xe s
section
variable {X : Cx} {a b : Expr} {ta tb : TE} {pos : Pos}
theorem pe_ix {r : R2} (hr : IxR X r) (ha : PE X a ta) (hb : PE X b tb) (hs : PlainIx b) : PE X (.Subscript a b pos) (tOp r ta tb) := by
  intro pins s σ H Q I h
  exact Subscript_ (binT ha hb I h fun v u s2 x y H2 I2 rx ry q => hr a b pins s2 σ H2 x y v u Q I2 rx ry q (hs _ _))
def rIxL (K : PySem.W.Frag) : R2 := fun x y H Q => ∃ p xs i v, x = .ref p ∧ y = .int i ∧ SqL K H p xs ∧ atI xs i = some v ∧ Q v H
def rIxT (K : PySem.W.Frag) : R2 := fun x y H Q => ∃ p xs i v, x = .ref p ∧ y = .int i ∧ SqT K H p xs ∧ atI xs i = some v ∧ Q v H
theorem ix_list : IxR X (rIxL X.K) := by
  intro value slice pins s σ H x y v u Q I rx ry h hs
  obtain ⟨p, xs, i, z, rfl, rfl, hq, he, q⟩ := h
  cases rx
  obtain ⟨t, rfl⟩ := ry
  obtain ⟨its, r, pl, hz⟩ := I.list hq
  obtain ⟨j, h1, h2, h3, h4, h5⟩ := atI_get he
  obtain ⟨w, ew, rw'⟩ := r.get h2
  have hl := r.length
  have hn := line63
  have fin : EP X pins σ Q w s := ⟨z, H, I, rw', q⟩
  by_cases h0 : 0 ≤ i
  · have hj : i.toNat = j := by
      rw [seqIndex_of h0 h5] at h1
      exact Option.some.inj h1
    exact item_listR pl.isList h0 (by omega) (by rw [hj]; simpa using ew) fin hs
  · have hj : (i + (its.toArray.size : Int)).toNat = j := by
      rw [seqIndex_neg (by omega) h4] at h1
      rw [List.size_toArray, ← hl]
      exact Option.some.inj h1
    exact subscriptTail_builtinR (x := w) pl.isList.typeIs slot_list_getitem.lookup
      (wpAny_getItem_list_neg (Q := fun r s' => r = w ∧ EP X pins σ Q r s') pl.isList (by omega) (by rw [List.size_toArray] <;> omega) (by omega) (by rw [hj]; simpa using ew) ⟨rfl, fin⟩) hs
theorem ix_tup : IxR X (rIxT X.K) := by
  intro value slice pins s σ H x y v u Q I rx ry h hs
  obtain ⟨p, xs, i, z, rfl, rfl, hq, he, q⟩ := h
  cases rx
  obtain ⟨t, rfl⟩ := ry
  obtain ⟨its, r, pl, hz⟩ := I.tuple hq
  obtain ⟨j, h1, h2, h3, h4, h5⟩ := atI_get he
  obtain ⟨w, ew, rw'⟩ := r.get h2
  have hl := r.length
  have hn := line63
  have fin : EP X pins σ Q w s := ⟨z, H, I, rw', q⟩
  exact subscriptTail_builtinR (x := w) pl.typeIs slot_tuple_getitem.lookup
    (getItem_tuple (j := j) (Q := fun r s' => r = w ∧ EP X pins σ Q r s') pl (by omega) (by omega) (by rw [List.size_toArray, ← hl]; exact h1) (by simpa using ew) ⟨rfl, fin⟩) hs
theorem mapSeq_set (its : List Value) (n j : Nat) (u : Value) : Obj.mapSeq (·.setIfInBounds j u) { cls := .type "list", data := .seq its.toArray n } = { cls := .type "list", data := .seq (its.set j u).toArray n } := by
  simp [Obj.mapSeq]
theorem Inv.lst {pins : List (Addr × Obj)} {σ : St} {H : Hp} {s : Shared} {p : Addr} {xs : List V} (I : Inv X pins σ H s) (h : H p = some (.lst xs)) :
    ∃ (its : List Value) (n : Nat), Vals xs its ∧ s.heap.get? p = some { cls := .type "list", data := .seq its.toArray n } ∧ xs.length ≤ sizeLine := by
  obtain ⟨z, its, n, r, e⟩ := I.hok p _ h
  exact ⟨its, n, r, e, z⟩
theorem Inv.lstUpd {pins : List (Addr × Obj)} {σ : St} {H : Hp} {s : Shared} {p : Addr} {xs ys : List V} {its its' : List Value} {n n' : Nat} {f : Obj → Obj} (I : Inv X pins σ H s) (h : H p = some (.lst xs))
    (ho : s.heap.get? p = some { cls := .type "list", data := .seq its.toArray n }) (hf : f { cls := .type "list", data := .seq its.toArray n } = { cls := .type "list", data := .seq its'.toArray n' }) (r : Vals ys its') (hz : ys.length ≤ sizeLine) (t : Nat) :
    Inv X pins σ (upd H p (.lst ys)) { s with heap := s.heap.update p f, toks := t } := by
  have e : (s.heap.update p f).get? p = some { cls := .type "list", data := .seq its'.toArray n' } := by
    rw [Heap.get?_update_self f ho (by rw [hf] <;> rfl), hf]
  refine I.write (x := p) (e := p) (by rw [h]; trivial) (.inl rfl) (fun b u hb q => (Heap.get?_update_other _ _ (Ne.symm hb)).trans q) ⟨_, e⟩ ?_
  exact ⟨hz, its', n', r, e⟩
def rSetL : V → V → V → Hp → (Hp → Prop) → Prop := fun o i v H Q => ∃ p xs k j, o = .ref p ∧ i = .int k ∧ H p = some (.lst xs) ∧ ixN xs.length k = some j ∧ Q (upd H p (.lst (xs.set j v)))
theorem set_list : PSet X rSetL := by
  intro pins s σ H o i v ov iv u Q I ro ri rv h
  obtain ⟨p, xs, k, j, rfl, rfl, hp, hj, q⟩ := h
  cases ro
  obtain ⟨t, rfl⟩ := ri
  obtain ⟨its, n, r, ho, hz⟩ := I.lst hp
  obtain ⟨h1, h2, h3, h4⟩ := ixN_seq hj
  have hl := r.length
  have hn := line63
  have I' : Inv X pins σ (upd H p (.lst (xs.set j v))) { s with heap := s.heap.update p (Obj.mapSeq (·.setIfInBounds j u)) } :=
    I.lstUpd hp ho (mapSeq_set its n j u) (r.set rv j) (by rw [List.length_set]; exact hz) s.toks
  by_cases h0 : 0 ≤ k
  · have hk : k.toNat = j := by
      rw [seqIndex_of h0 h4] at h1
      exact Option.some.inj h1
    exact PySem.W.ki_setAt ho h0 (by omega) (by rw [List.size_toArray, ← hl]; exact h4) (by rw [hk]; exact ⟨_, I', q⟩)
  · have hk : (k + (its.toArray.size : Int)).toNat = j := by
      rw [seqIndex_neg (by omega) h3] at h1
      rw [List.size_toArray, ← hl]
      exact Option.some.inj h1
    exact PySem.W.ki_setBack ho (by omega) (by rw [List.size_toArray, ← hl]; exact h3) (by omega) (by rw [hk]; exact ⟨_, I', q⟩)
theorem slice_bounds (lo hi : Option Int) (n : Nat) : (sliceBounds lo hi none n).1 = ((HT.sIx n 0 lo : Nat) : Int) ∧ (sliceBounds lo hi none n).2.1 = ((HT.sIx n n hi : Nat) : Int) ∧ (sliceBounds lo hi none n).2.2 = 1 := by
  refine ⟨?_, ?_, rfl⟩
  · cases lo with
    | none => simp [sliceBounds, HT.sIx]
    | some i =>
      simp only [sliceBounds, HT.sIx, Option.getD_none, show (1 : Int) > 0 by decide, if_true]
      by_cases h : i < 0
      · simp only [h, if_true] <;> omega
      · simp only [h, if_false] <;> omega
  · cases hi with
    | none => simp [sliceBounds, HT.sIx]
    | some i =>
      simp only [sliceBounds, HT.sIx, Option.getD_none, show (1 : Int) > 0 by decide, if_true]
      by_cases h : i < 0
      · simp only [h, if_true] <;> omega
      · simp only [h, if_false] <;> omega
theorem slicePick_cut (its : List Value) (lo hi : Option Int) : slicePick its.toArray lo hi none = ((its.drop (HT.sIx its.length 0 lo)).take (HT.sIx its.length its.length hi - HT.sIx its.length 0 lo)).toArray := by
  obtain ⟨h1, h2, h3⟩ := slice_bounds lo hi its.toArray.size
  unfold slicePick
  rw [h1, h2, h3]
  simp only [sliceRange_one, pick_run, List.size_toArray] <;> rfl
def rSlL (K : PySem.W.Frag) : V → Option Int → Option Int → Hp → VK → Prop := fun x lo hi H Q => ∃ a xs, x = .ref a ∧ SqL K H a xs ∧ ∀ p, H p = none → Q (.ref p) (upd H p (.lst (cutV xs lo hi)))
theorem sl_list : SlR X (rSlL X.K) := by
  intro pins s σ H x v vl vu lo hi sl Q I rx hs pl pu h
  obtain ⟨a, xs, rfl, hx, q⟩ := h
  cases rx
  obtain ⟨its, r, ht, hz⟩ := I.list hx
  have hlen := r.length
  refine ⟨"list", _, slot_list_getitem.lookup, ht.isList.typeIs, ?_⟩
  refine wpAny_getItem_list_slice ht.isList hs pl pu .none (by simp) ?_ (by rw [List.size_toArray] <;> omega)
  rw [slicePick_cut, ← hlen]
  refine ⟨.ref s.heap.objs.size, _, I.laid (t' := s.toks) (o := .lst (cutV xs lo hi)) (fun b ob q => Heap.get?_push_of_some _ q) (Nat.le_refl _) ?_, rfl, q _ (I.hok.fresh (Nat.le_refl _))⟩
  exact ⟨Nat.le_trans (cutV_length xs lo hi) hz, _, 0, (r.drop (HT.sIx xs.length 0 lo)).take (HT.sIx xs.length xs.length hi - HT.sIx xs.length 0 lo), Heap.get?_push_size _ rfl⟩
def flatV : V → Bool
  | .non => true
  | .bl _ => true
  | .int _ => true
  | .str _ => true
  | _ => false
def eqV : V → V → Bool
  | .non, .non => true
  | .bl a, .bl b => a == b
  | .bl a, .int b => (if a then 1 else 0) == b
  | .int a, .bl b => a == (if b then 1 else 0)
  | .int a, .int b => a == b
  | .str a, .str b => a == b
  | _, _ => false
theorem eqAt_V {A : Around} {s : Shared} {y x : V} {u v : Value} (ry : RelV y u) (rx : RelV x v) (fy : flatV y = true) (fx : flatV x = true) : SeqAt.EqAt A s u v (eqV y x) := by
  cases y with
  | non =>
    cases ry
    cases x with
    | non => cases rx; exact SeqAt.EqAt.same _
    | bl b => cases rx; exact SeqAt.EqAt.none_bool b
    | int b => obtain ⟨t, rfl⟩ := rx; exact SeqAt.EqAt.none_int b t
    | str b => obtain ⟨t, rfl⟩ := rx; exact SeqAt.EqAt.none_str b t
    | _ => exact absurd (show false = true from fx) Bool.false_ne_true
  | bl a =>
    cases ry
    cases x with
    | non => cases rx; exact SeqAt.EqAt.bool_none a
    | bl b => cases rx; exact SeqAt.EqAt.bool_bool a b
    | int b => obtain ⟨t, rfl⟩ := rx; exact SeqAt.EqAt.bool_int a b t
    | str b => obtain ⟨t, rfl⟩ := rx; exact SeqAt.EqAt.bool_str a b t
    | _ => exact absurd (show false = true from fx) Bool.false_ne_true
  | int a =>
    obtain ⟨t', rfl⟩ := ry
    cases x with
    | non => cases rx; exact SeqAt.EqAt.int_none a t'
    | bl b => cases rx; exact SeqAt.EqAt.int_bool a t' b
    | int b => obtain ⟨t, rfl⟩ := rx; exact SeqAt.EqAt.int_int a t' b t
    | str b => obtain ⟨t, rfl⟩ := rx; exact SeqAt.EqAt.int_str a t' b t
    | _ => exact absurd (show false = true from fx) Bool.false_ne_true
  | str a =>
    obtain ⟨t', rfl⟩ := ry
    cases x with
    | non => cases rx; exact SeqAt.EqAt.str_none a t'
    | bl b => cases rx; exact SeqAt.EqAt.str_bool a t' b
    | int b => obtain ⟨t, rfl⟩ := rx; exact SeqAt.EqAt.str_int a t' b t
    | str b => obtain ⟨t, rfl⟩ := rx; exact SeqAt.EqAt.str_str a t' b t
    | _ => exact absurd (show false = true from fx) Bool.false_ne_true
  | _ => exact absurd (show false = true from fy) Bool.false_ne_true
def eqU (x : V) (u : Value) : Bool := match u with
  | .none => eqV .non x
  | .bool b => eqV (.bl b) x
  | .int i _ => eqV (.int i) x
  | .str z _ => eqV (.str z) x
  | _ => false
theorem eqU_of {x y : V} {u : Value} (r : RelV y u) (f : flatV y = true) : eqU x u = eqV y x := by
  cases y with
  | non => cases r; rfl
  | bl b => cases r; rfl
  | int i => obtain ⟨t, rfl⟩ := r; rfl
  | str z => obtain ⟨t, rfl⟩ := r; rfl
  | _ => exact absurd (show false = true from f) Bool.false_ne_true
theorem any_eqU {x : V} : ∀ {xs : List V} {us : List Value}, Vals xs us → xs.all flatV = true → us.any (eqU x) = xs.any fun y => eqV y x
  | _, _, .nil, _ => rfl
  | y :: xs, u :: us, .cons r t, f => by
    rw [List.all_cons, Bool.and_eq_true] at f
    rw [List.any_cons, List.any_cons, eqU_of r f.1, any_eqU t f.2]
theorem mem_eqAt {A : Around} {s : Shared} {x : V} {v : Value} (rx : RelV x v) (fx : flatV x = true) : ∀ {xs : List V} {us : List Value}, Vals xs us → xs.all flatV = true → ∀ u ∈ us, SeqAt.EqAt A s u v (eqU x u)
  | _, _, .nil, _ => fun u hu => by cases hu
  | y :: xs, u :: us, .cons r t, f => fun u' hu => by
    rw [List.all_cons, Bool.and_eq_true] at f
    rcases List.mem_cons.mp hu with rfl | hu
    · rw [eqU_of r f.1]; exact eqAt_V r rx f.1 fx
    · exact mem_eqAt rx fx t f.2 u' hu
def inV (x : V) (xs : List V) : Bool := xs.any fun y => eqV y x
def rIn (K : PySem.W.Frag) (neg : Bool) : R2 := fun x y H Q => ∃ p xs, y = .ref p ∧ (SqL K H p xs ∨ SqT K H p xs) ∧ flatV x = true ∧ xs.all flatV = true ∧ Q (.bl (if neg then !inV x xs else inV x xs)) H
theorem op_in_seq : OpR X (compareOp .In) (rIn X.K false) := by
  intro pins s σ H x y v u Q I rx ry h
  obtain ⟨p, xs, rfl, hq, fx, fs, q⟩ := h
  cases ry
  rcases hq with hq | hq
  · obtain ⟨its, r, pl, hz⟩ := I.list hq
    refine SeqAt.in_listAt (eqU x) pl.isList (fun w hw => mem_eqAt rx fx r fs w (by simpa using hw)) ⟨.bl _, H, I, rfl, ?_⟩
    rw [show its.toArray.any (eqU x) = its.any (eqU x) by simp, any_eqU r fs]
    exact q
  · obtain ⟨its, r, pl, hz⟩ := I.tuple hq
    refine SeqAt.in_tupleAt (eqU x) pl (fun w hw => mem_eqAt rx fx r fs w (by simpa using hw)) ⟨.bl _, H, I, rfl, ?_⟩
    rw [show its.toArray.any (eqU x) = its.any (eqU x) by simp, any_eqU r fs]
    exact q
theorem call_len_seq : CallR X (.builtin "len") (fun xs H Q => ∃ p ys, xs = [.ref p] ∧ (SqL X.K H p ys ∨ SqT X.K H p ys) ∧ Q (.int ys.length) H) := by
  intro pins s σ H xs us Q I r h
  obtain ⟨p, ys, rfl, hq, q⟩ := h
  obtain ⟨u, rfl, rx⟩ := vals1 r
  cases rx
  have hn := line63
  rcases hq with hq | hq
  · obtain ⟨its, r', pl, hz⟩ := I.list hq
    have hlen := r'.length
    exact Calls.call_len_list pl.isList (by simp only [List.size_toArray] <;> omega) ⟨.int ys.length, H, I.tok _, ⟨s.toks + 1, by rw [List.size_toArray, hlen]⟩, q⟩
  · obtain ⟨its, r', pl, hz⟩ := I.tuple hq
    have hlen := r'.length
    exact len_tuple pl (by simp only [List.size_toArray] <;> omega) ⟨.int ys.length, H, I.tok _, ⟨s.toks + 1, by rw [List.size_toArray, hlen]⟩, q⟩
theorem call_tuple_of : CallR X (.type "tuple") (fun xs H Q => ∃ p ys, xs = [.ref p] ∧ ((SqL X.K H p ys ∧ ∀ l, H l = none → Q (.ref l) (upd H l (.tup ys))) ∨ (SqT X.K H p ys ∧ Q (.ref p) H))) := by
  intro pins s σ H xs us Q I r h
  obtain ⟨p, ys, rfl, h⟩ := h
  obtain ⟨u, rfl, rx⟩ := vals1 r
  cases rx
  rcases h with ⟨hq, q⟩ | ⟨hq, q⟩
  · obtain ⟨its, r', pl, hz⟩ := I.list hq
    have hlen := r'.length
    refine call_tuple_list pl.isList (fun h' kp => ?_) (by simp only [List.size_toArray] <;> omega)
    have I1 : Inv X pins σ H { s with heap := h' } := I.kept (t' := s.toks) kp
    have I2 : Inv X pins σ (upd H h'.objs.size (.tup ys)) { s with heap := h'.push { cls := .type "tuple", data := .seq its.toArray } } :=
      I1.laid (t' := s.toks) (fun b o e => Heap.get?_push_of_some _ e) (Nat.le_refl _) (show ObjOk X.prog X.w _ _ _ (.tup ys) from ⟨hz, its, r', IsTup.new _ _⟩)
    exact ⟨.ref h'.objs.size, _, I2, rfl, q _ (I1.hok.fresh (Nat.le_refl _))⟩
  · obtain ⟨its, r', pl, hz⟩ := I.tuple hq
    exact call_tuple_same pl ⟨.ref p, H, I, rfl, q⟩
def tyV (K : PySem.W.Frag) (T : String) (x : V) (H : Hp) : Prop := match x with
  | .str _ => T = "str"
  | .int _ => T = "int"
  | .ref p => (T = "list" ∧ ∃ xs, SqL K H p xs) ∨ (T = "tuple" ∧ ∃ o, K.lookup p = some o ∧ o.cls = .type "tuple" ∧ o.dict = none) ∨
      (T = "dict" ∧ ((∃ kvs, H p = some (.dK kvs)) ∨ ∃ kvs, H p = some (.dT kvs))) ∨ (T = "set" ∧ ∃ S n, H p = some (.set S n))
  | _ => False
theorem tyV_is {pins : List (Addr × Obj)} {σ : St} {H : Hp} {s : Shared} {T : String} {x : V} {v : Value} (I : Inv X pins σ H s) (r : RelV x v) (ty : tyV X.K T x H) :
    s.TypeIs v T ∧ ∀ a, v = .ref a → ∃ ob, s.heap.get? a = some ob ∧ ob.dict = none := by
  cases x with
  | str z =>
    obtain ⟨t, rfl⟩ := r
    cases (show T = "str" from ty)
    exact ⟨typeIs_str s z t, fun _ e => nomatch e⟩
  | int i =>
    obtain ⟨t, rfl⟩ := r
    cases (show T = "int" from ty)
    exact ⟨typeIs_int s i t, fun _ e => nomatch e⟩
  | ref p =>
    cases r
    rcases ty with ⟨rfl, xs, hq⟩ | ⟨rfl, o, hk, hc, hd⟩ | ⟨rfl, hk⟩ | ⟨rfl, S, n, hk⟩
    · obtain ⟨its, _, pl, _⟩ := I.list hq
      refine ⟨pl.isList.typeIs, fun a e => ?_⟩
      cases e
      obtain ⟨o, n, e, c, hd, _⟩ := pl
      exact ⟨o, e, hd⟩
    · refine ⟨⟨o, I.kIn p o hk, hc⟩, fun a e => ?_⟩
      cases e
      exact ⟨o, I.kIn _ o hk, hd⟩
    · have z : ∃ o, s.heap.get? p = some o ∧ o.ExactDict := by
        rcases hk with ⟨kvs, hk⟩ | ⟨kvs, hk⟩
        · obtain ⟨_, _, _, _, o, _, _, e, ex, _⟩ := I.hok p _ hk
          exact ⟨o, e, ex⟩
        · obtain ⟨_, _, _, _, o, _, _, e, ex, _⟩ := I.hok p _ hk
          exact ⟨o, e, ex⟩
      obtain ⟨o, e, ex⟩ := z
      refine ⟨⟨o, e, ex.1⟩, fun a e2 => ?_⟩
      cases e2
      exact ⟨o, e, ex.2.1⟩
    · obtain ⟨o, _, _, _, e, ex, _⟩ := I.hok p _ hk
      refine ⟨⟨o, e, ex.1⟩, fun a e2 => ?_⟩
      cases e2
      exact ⟨o, e, ex.2.1⟩
  | _ => exact False.elim ty
def tBM (K : PySem.W.Frag) (T : String) (r : V → List V → Hp → VK → Prop) (to : TE) (t : TA) : TE := fun σ H Q => to σ H fun x H1 => tyV K T x H1 ∧ t σ H1 fun xs H2 => r x xs H2 Q
variable {o e : Expr} {es : List Expr} {to : TE} {t : TA} {name : Str} {apos cpos : Pos} {T id : String} {r : V → List V → Hp → VK → Prop}
theorem pe_bm (pa : PlainAttrs T) (slot : Slot T name id) (hty : typeOf (.builtin id) = pure (.type "method_descriptor")) (hm : MtR X id r) (ho : PE X o to) (ha : PA X (e :: es) t)
    (hbase : attributeBase o name X.env (eval o X.env) = eval o X.env := by rfl)
    (hfew : ((backTo cpos (starEach (e :: es) X.env)).all (fun x => !x.1) && (backToKw cpos (keywordEach [] X.env)).all (fun x => x.1.isSome)
      && decide ((e :: es).length + ([] : List Keyword).length + (if ([] : List Keyword).isEmpty then 0 else 1) < 30)) = true := by rfl)
    (hline : (apos.endLine == cpos.line) = true := by rfl) (hs : starEach (e :: es) X.env = (false, eval e X.env) :: starEach es X.env := by rfl) (hplain : (backTo cpos (starEach es X.env)).any (·.1) = false := by rfl) :
    PE X (.Call (.Attribute o name apos) (e :: es) [] cpos) (tBM X.K T r to t) := by
  intro pins s σ H Q I h
  refine wpAny_Call_method_late hbase hfew hline rfl (thn (ho pins s σ H _ I h) fun v s1 ⟨x, H1, I1, r1, ty, q1⟩ => ?_)
  obtain ⟨h1, h2⟩ := tyV_is I1 r1 ty
  refine ⟨T, id, pa, slot, hty, h1, h2, ?_⟩
  have hA := ha cpos pins s1 σ H1 _ I1 q1
  rw [hs] at hA ⊢
  refine Calls.callWith_builtin (by show (false || (backTo cpos (starEach es X.env)).any (·.1)) = false; rw [hplain] <;> rfl) (Calls.evalArgs_plain ?_)
  exact thn hA fun us s2 ⟨vs, H2, I2, r2, q2⟩ => hm pins s2 σ H2 x vs v us Q I2 r1 r2 q2
end
end L2
namespace L2
open PySem PySem.Spec PyProof.Rows
def MtM (X : Cx) (id : String) (r : V → List V → Hp → VK → Prop) : Prop :=
  ∀ (pins : List (Addr × Obj)) (s : Shared) (σ : St) (H : Hp) (x : V) (xs : List V) (v : Value) (us : List Value) (Q : VK), Inv X pins σ H s → RelV x v → Vals xs us → r x xs H Q →
    wpAny (model X.prog X.w) X.A (call (.builtin id) (v :: us)) (EP X pins σ Q) X.xe s
theorem Vals.one : ∀ {x : V} {us : List Value}, Vals [x] us → ∃ u, us = [u] ∧ RelV x u
  | _, _, .cons r .nil => ⟨_, rfl, r⟩
theorem Vals.rep {xs : List V} {us : List Value} (h : Vals xs us) : ∀ k : Nat, Vals (List.replicate k xs).flatten (List.replicate k us).flatten
  | 0 => .nil
  | k + 1 => by
    rw [List.replicate_succ, List.replicate_succ, List.flatten_cons, List.flatten_cons]
    exact Vals.append h (Vals.rep h k)
theorem foldl_rep (its : List Value) : ∀ (k : Nat) (acc : List Value),
    List.foldl (fun x1 x2 => x1 ++ x2) acc.toArray (List.replicate k its.toArray) = (acc ++ (List.replicate k its).flatten).toArray
  | 0, acc => by simp
  | k + 1, acc => by
    have e : acc.toArray ++ its.toArray = (acc ++ its).toArray := by simp
    have e2 : (acc ++ its) ++ (List.replicate k its).flatten = acc ++ (List.replicate (k + 1) its).flatten := by
      rw [List.replicate_succ, List.flatten_cons, List.append_assoc]
    rw [← e2, ← foldl_rep its k (acc ++ its), ← e, List.replicate_succ, List.foldl_cons]
section
variable {X : Cx} {pins : List (Addr × Obj)} {σ : St} {H : Hp} {s : Shared} {l b : Addr} {xs ys zs : List V}
theorem Inv.lset {its its' : List Value} {n : Nat} {f : Array Value → Array Value} {t' : Nat} (I : Inv X pins σ H s) (hH : H l = some (.lst xs))
    (e : s.heap.get? l = some { cls := .type "list", data := .seq its.toArray n }) (hf : f its.toArray = its'.toArray) (hv : Vals ys its') (hz : ys.length ≤ sizeLine) :
    Inv X pins σ (upd H l (.lst ys)) { s with heap := s.heap.update l (Obj.mapSeq f), toks := t' } := by
  have q := PySem.IsL.update e f
  rw [hf] at q
  refine I.write (x := l) (e := l) (by rw [hH]; exact trivial) (.inl rfl) (fun b' u hb hu => (Heap.get?_update_other s.heap (Obj.mapSeq f) (Ne.symm hb)).trans hu) ⟨_, q⟩ ?_
  exact ⟨hz, its', _, hv, q⟩
theorem Inv.lnew {its : List Value} {t' : Nat} (I : Inv X pins σ H s) (hv : Vals ys its) (hz : ys.length ≤ sizeLine) :
    Inv X pins σ (upd H s.heap.objs.size (.lst ys)) { s with heap := s.heap.push { cls := .type "list", data := .seq its.toArray }, toks := t' } :=
  I.laid (fun _ _ q => Heap.get?_push_of_some _ q) (Nat.le_refl _) ⟨hz, its, 0, hv, Heap.get?_push_size _ rfl⟩
theorem Inv.fresh (I : Inv X pins σ H s) : H s.heap.objs.size = none := I.hok.fresh (Nat.le_refl _)
theorem Inv.lstM (I : Inv X pins σ H s) (hH : H l = some (.lst xs)) : xs.length ≤ sizeLine ∧ ∃ (its : List Value) (n : Nat), Vals xs its ∧ xs.length = its.length ∧ s.heap.get? l = some { cls := .type "list", data := .seq its.toArray n } := by
  obtain ⟨z, its, n, r, e⟩ := I.hok l _ hH
  exact ⟨z, its, n, r, r.length, e⟩
theorem notLongL {n : Nat} (h : n ≤ sizeLine) : Builtin.List.listTooLong n = false := by
  unfold Builtin.List.listTooLong
  exact decide_eq_false (by omega)
end
section
variable {X : Cx}
def rExtend : V → List V → Hp → VK → Prop := fun x vs H Q => ∃ l b xs zs, x = .ref l ∧ vs = [.ref b] ∧ H l = some (.lst xs) ∧ H b = some (.lst zs) ∧ xs.length + zs.length ≤ sizeLine ∧ Q .non (upd H l (.lst (xs ++ zs)))
theorem mt_extend : MtM X "list.extend" rExtend := by
  intro pins s σ H x vs v us Q I rx rv h
  obtain ⟨l, b, xs, zs, rfl, rfl, hH, hB, hz, q⟩ := h
  cases rx
  obtain ⟨u, rfl, ru⟩ := rv.one
  cases ru
  obtain ⟨z, its, n, r, hl, e⟩ := I.lstM hH
  obtain ⟨z2, its2, n2, r2, hl2, e2⟩ := I.lstM hB
  have hsz : its.toArray.size + its2.toArray.size ≤ sizeLine := by rw [List.size_toArray, List.size_toArray]; omega
  have hlong : ¬ (!its.toArray.isEmpty && Builtin.List.listTooLong (its.toArray.size + its2.toArray.size)) = true := by
    rw [notLongL hsz, Bool.and_false]
    exact Bool.false_ne_true
  refine call_meets F.slot_list_extend ⟨_, e, rfl⟩ F.entry_list_extend (F.args_list_extend_2 _ _)
    (AutoSeq1.list_extend_list_list_0 l its.toArray n b its2.toArray n2 hlong (by rw [List.size_toArray]; omega) (by omega)) ⟨e, e2, ?_⟩
  refine ⟨.non, _, I.lset (its' := its ++ its2) hH e (by simp) (r.append r2) ?_, rfl, q⟩
  rw [List.length_append]
  omega
def rCat : R2 := fun x y H Q => ∃ l b xs zs, x = .ref l ∧ y = .ref b ∧ H l = some (.lst xs) ∧ H b = some (.lst zs) ∧ xs.length + zs.length ≤ sizeLine ∧ ∀ p, H p = none → Q (.ref p) (upd H p (.lst (xs ++ zs)))
theorem op_cat : OpR X (binaryOp .Add) rCat := by
  intro pins s σ H x y v u Q I rx ry h
  obtain ⟨l, b, xs, zs, rfl, rfl, hH, hB, hz, q⟩ := h
  cases rx
  cases ry
  obtain ⟨z, its, n, r, hl, e⟩ := I.lstM hH
  obtain ⟨z2, its2, n2, r2, hl2, e2⟩ := I.lstM hB
  refine PySem.P.add_list e e2 ?_ (by rw [List.size_toArray, List.size_toArray]; omega)
  have ea : its.toArray ++ its2.toArray = (its ++ its2).toArray := by simp
  rw [ea]
  exact ⟨.ref _, _, I.lnew (t' := s.toks) (r.append r2) (by rw [List.length_append]; omega), rfl, q _ I.fresh⟩
def rRep : R2 := fun x y H Q => ∃ l k xs, x = .ref l ∧ y = .int k ∧ H l = some (.lst xs) ∧ -(2 ^ 63) ≤ k ∧ k < 2 ^ 63 ∧ xs.length * k.toNat ≤ sizeLine ∧
  ∀ p, H p = none → Q (.ref p) (upd H p (.lst (List.replicate k.toNat xs).flatten))
theorem len_rep {α : Type} (xs : List α) (k : Nat) : (List.replicate k xs).flatten.length = k * xs.length := by
  induction k with
  | zero => simp
  | succ k ih => rw [List.replicate_succ, List.flatten_cons, List.length_append, ih, Nat.succ_mul, Nat.add_comm]
theorem op_rep : OpR X (binaryOp .Mult) rRep := by
  intro pins s σ H x y v u Q I rx ry h
  obtain ⟨l, k, xs, rfl, rfl, hH, h1, h2, hz, q⟩ := h
  cases rx
  obtain ⟨t, rfl⟩ := ry
  obtain ⟨z, its, n, r, hl, e⟩ := I.lstM hH
  have hlen : its.toArray.size * k.toNat ≤ sizeLine := by rw [List.size_toArray, ← hl]; exact hz
  have hcap : ¬ its.toArray.size * k.toNat > (2 ^ 63 - 1) / 8 := by
    have : (sizeLine : Nat) ≤ (2 ^ 63 - 1) / 8 := by decide
    omega
  have hfit : ¬ (!Builtin.List.listFitsIndex k) = true := by
    rw [fitsIndex_both h1 h2]
    exact Bool.false_ne_true
  have hlong : ¬ Builtin.List.listTooLong (its.toArray.size * k.toNat) = true := by
    rw [notLongL hlen]
    exact Bool.false_ne_true
  have hnew : List.foldl (fun x1 x2 => x1 ++ x2) #[] (List.replicate (if its.toArray.isEmpty = true then 0 else k.toNat) its.toArray) = (List.replicate k.toNat its).flatten.toArray := by
    have f0 : ∀ m : Nat, List.foldl (fun x1 x2 => x1 ++ x2) #[] (List.replicate m its.toArray) = (List.replicate m its).flatten.toArray := fun m => by
      have := foldl_rep its m []
      rw [List.nil_append] at this
      exact this
    rw [f0]
    cases its with
    | nil => simp
    | cons a r' => rw [if_neg (by simp)]
  refine wpAny_binaryOp_repeat_ref (T := "list") (U := "int") (by decide) ⟨_, e, rfl⟩ (fun s' => typeIs_int s' k t) noFill_list_mul F.fills_int_mul F.slot_int_rmul repeat_list F.slot_int_index.lookup
    (call_meets F.slot_int_rmul (typeIs_int s k t) F.entry_int_rmul (F.args_int_rmul_2 _ _) (int___rmul___int_list k t l its.toArray n)
      ⟨e, rfl, ⟨_, e, rfl⟩, call_meets F.slot_list_mul ⟨_, e, rfl⟩ F.entry_list_mul (F.args_list_mul_2 _ _) (AutoListH.list___mul___list_int_3 l its.toArray n k t hfit hcap hlong) ⟨e, ?_⟩⟩)
  rw [hnew]
  exact ⟨.ref _, _, I.lnew (t' := s.toks) (r.rep k.toNat) (by rw [len_rep, Nat.mul_comm]; exact hz), rfl, q _ I.fresh⟩
end
end L2
namespace Att
open PySem PySem.W PySem.Calls PyProof.Rows
theorem ints_of_wellAll {P : Params} {h : Heap} : ∀ (ns : List Int) (vs : List Value), WellAll P h vs (ns.map WData.int) → IntsAre vs ns := by
  intro ns
  induction ns with
  | nil =>
    intro vs w
    rw [List.map_nil] at w
    cases w
    exact .nil
  | cons n ns ih =>
    intro vs w
    rw [List.map_cons] at w
    cases w with
    | cons a b =>
      cases a
      exact .cons _ _ (ih _ b)
theorem script_of {l : OpenLaw} {n : Nat} (hn : l.most = some n) {P : Params} {h : Heap} {args : List WData} {vals : List Value}
    (hpre : l.row.toRowW.claim.pre args = true) (hwl : WellAll P h vals args) :
    ∃ a vs ns, vals = [Value.ref a] ∧ args = [WData.list (ns.map WData.int)] ∧ h.get? a = some { cls := .type "list", data := .seq vs.toArray } ∧ IntsAre vs ns ∧ ns.length ≤ n := by
  have hsh : WShape.hasAll [] args [.list .int] = true := (pre_splitW hpre).1
  have hc : l.pre.holds [] { args := args } = true := (pre_splitW hpre).2
  obtain ⟨d, r, rfl, h1, h2⟩ := hasAllW_cons hsh
  obtain rfl := hasAllW_nil h2
  obtain ⟨xs, rfl, h3⟩ := hasW_list h1
  obtain ⟨ns, rfl⟩ := items_int h3
  have hlen : ns.length ≤ n := by
    unfold OpenLaw.pre at hc
    have h4 : (WTm.not (.lt (.lit (.int (n : Int))) (.len (.arg 0)))).holds [] { args := [.list (ns.map .int)] } = true := by
      have h4 := (holds_andW hc).1
      rw [hn] at h4
      exact h4
    have h5 := condW_of h4 (w_not (w_lt w_lit (w_len_list (w_arg rfl))))
    rw [List.length_map] at h5
    refine Nat.le_of_not_lt fun q => ?_
    have q' : (n : Int) < ((ns.length : Nat) : Int) := by omega
    first
      | (rw [decide_eq_true q'] at h5; exact absurd h5 (by decide))
      | (simp at h5; omega)
  cases hwl with
  | cons w1 w2 =>
    cases w2
    cases w1 with
    | list ho hall => exact ⟨_, _, ns, rfl, rfl, ho, ints_of_wellAll ns _ hall, hlen⟩
theorem post_true (l : OpenLaw) (args : List WData) : l.row.toRowW.claim.post args (.bool true) args = true :=
  postW_of (r := l.row.toRowW) (X := (true == true))
    (show WShape.has [] (.bool true) .bool = true by first | rfl | decide | simp [WShape.has, WShape.arms, WShape.armsAll])
    (show (WTm.eq .res (.lit (.bool true))).value [] { args := args, res := some (.bool true), after := args } = some (.bool (true == true)) from w_eq_bool (w_res rfl) w_lit) rfl
theorem attach_call {l : OpenLaw} {n : Nat} {q : Program} {loose : List Str} {XP : (Str → Option Value) → Heap → Prop} {YP : World → Heap → Prop} {d : DefRec}
    (hn : l.most = some n) (hdf : d.params.defaults = [])
    (call : ∀ (w : World) (s₀ s₁ : Shared) (mg mb : Str → Option Value) (fa : Addr) (o : Obj) (pm cd doc : Value) (a : Addr) (vs : List Value) (ns : List Int),
      Ground q loose [] XP w s₀ mg mb s₁.heap → YP w s₁.heap →
      s₁.heap.get? fa = some o → o.data = .func (docDef d.name d.params d.body d.scope pm cd doc) → s₁.heap.CodeRec cd d.name → mg d.name = some (.ref fa) →
      s₁.heap.get? a = some { cls := .type "list", data := .seq vs.toArray } → IntsAre vs ns → ns.length ≤ n → s₁.gens = #[] →
      codeAny (model l.prog w) callerA (.call (.ref fa) ⟨[.ref a], []⟩) (fun r s' => r = .ok (.ret (.bool true)) ∧ OldK s₁.heap s'.heap ∧ s'.os = s₁.os ∧ AllBare s'.gens) s₁) :
    WalkO q loose XP YP l.row.toRowW d [] (fun f vs => PySem.call f vs) := by
  intro w s₀ s₁ mg mb G Y fa o pm cd doc dV kV ho hd hcd hD hmg hg args vals as hpre hlay hrd hwl hlo
  obtain rfl : dV = .none := Dflts.none hD hdf
  obtain rfl : kV = .none := Dflts.noKw hD
  obtain ⟨a, vs, ns, rfl, rfl, hobj, hints, hlen⟩ := script_of hn hpre hwl
  refine enter_call (codeAny_mono (call w s₀ s₁ mg mb fa o pm cd doc a vs ns G Y ho (fd_plain hd) hcd hmg hobj hints hlen hg) fun r s' hq => ?_)
  obtain ⟨rfl, h2, h3, h4⟩ := hq
  exact ⟨.inl ⟨.bool true, .bool true, [], rfl, fun _ => rfl, .bool true, post_true l _, fun _ => ⟨List.Pairwise.nil, fun _ hm => (nomatch hm)⟩⟩, h2, h3, h4⟩
end Att
namespace L2
open PySem PySem.Spec PyProof.Rows
theorem vals_ints : ∀ {vs : List Value} {ns : List Int}, IntsAre vs ns → Vals (ns.map V.int) vs
  | _, _, .nil => .nil
  | _, _, .cons n t h => .cons ⟨t, rfl⟩ (vals_ints h)
end L2
namespace L2
open PySem PySem.Spec PyProof.Rows
def inClass (s : Stmt) (j : Nat) : Stmt := match s with
  | .ClassDef _ _ _ body _ _ _ _ _ _ _ => body.getD j (.Pass ⟨0, 0, 0, 0⟩)
  | _ => .Pass ⟨0, 0, 0, 0⟩
def defArgs (s : Stmt) : Arguments := match s with
  | .FunctionDef _ a _ _ _ _ _ _ _ _ => a
  | _ => { posonlyargs := [], args := [], vararg := none, kwonlyargs := [], kw_defaults := [], kwarg := none, defaults := [] }
def defBody (s : Stmt) : List Stmt := match s with
  | .FunctionDef _ _ b _ _ _ _ _ _ _ => b
  | _ => []
def defScope (s : Stmt) : Scope := match s with
  | .FunctionDef _ _ _ _ _ _ sc _ _ _ => sc
  | _ => { kind := .function, names := [], isGenerator := false, isCoroutine := false }
abbrev CX0 : CXT := fun _ _ _ _ _ _ => False
abbrev E0 : XK := fun _ _ _ => False
theorem pass0 {X : Cx} : Passes CX0 X E0 := fun _ _ _ _ _ _ _ h => h.elim
structure Fun (K : PySem.W.Frag) (x qual : Str) (st : Stmt) (f : Addr) (fd : FuncData) : Prop where
  ex : ∃ (oc : Value) (od : Option Addr) (kV doc pm : Value) (an : Option Addr) (cdv ct : Value) (osl : Array (Option Value)),
    fd = PySem.W.fnOf x qual (defArgs st) (defBody st) (defScope st) .none kV doc pm an cdv ct ∧ K.lookup f = some ⟨oc, od, .func fd, osl⟩ ∧ PySem.W.codeIn K cdv qual = true
  kp : PySem.W.keepIn K (.ref f) = true
section
variable {P : Program} {w : World} {K : PySem.W.Frag} {mg : Str → Option Value} {base : Heap}
theorem Fun.ok {x qual : Str} {st : Stmt} {f : Addr} {fd : FuncData} {N ps : List Str} {k : Nat} {sp : Sp} (F : Fun K x qual st f fd) (S : FnScope N ps (defScope st)) (len : ∀ vs H Q E, sp vs H Q E → vs.length = ps.length)
    (hbody : ∀ (cdv : Value) (A : Around) (outer : List Env) (s : Shared) (H : Hp) (vs : List V) (Q : VK) (E : XK), Room k (A.deeper (envOfC qual (defScope st) s.heap.objs.size f cdv)) → sp vs H Q E →
      ∃ t, PSs (cxOf CX0 P w K mg base N qual (defScope st) f cdv A outer s H E).nox (defBody st) t ∧ t { nx := fun _ H' => Q .non H', rt := Q } (start N vs) H) : FnOk P w K mg base CX0 (k + 1) f fd ps sp := by
  obtain ⟨oc, od, kV, doc, pm, an, cdv, ct, osl, rfl, lk, hcd⟩ := F.ex
  refine fn_of lk hcd S len fun A outer s H vs Q E hr hsp => ?_
  obtain ⟨t, h, q⟩ := hbody cdv A outer s H vs Q E hr hsp
  exact ⟨t, h.nox, q⟩
theorem Fun.binds {x qual : Str} {st : Stmt} {f : Addr} {fd : FuncData} {ps : List Str} (F : Fun K x qual st f fd)
    (h : ∀ (kV doc pm : Value) (an : Option Addr) (cdv ct : Value) (us : List Value), us.length = ps.length → bindArgs (PySem.W.fnOf x qual (defArgs st) (defBody st) (defScope st) .none kV doc pm an cdv ct) ⟨us, []⟩ = pure (ps.zip us)) : Binds K fd ps [] := by
  obtain ⟨oc, od, kV, doc, pm, an, cdv, ct, osl, rfl, lk, hcd⟩ := F.ex
  exact .all (h kV doc pm an cdv ct)
theorem fun_mk {x qual : Str} {st : Stmt} {f : Addr} {oc : Value} {od an : Option Addr} {osl : Array (Option Value)} {kV doc pm cdv ct : Value} (l : K.lookup f = some ⟨oc, od, .func (PySem.W.fnOf x qual (defArgs st) (defBody st) (defScope st) .none kV doc pm an cdv ct), osl⟩)
    (c : PySem.W.codeIn K cdv qual = true) (k : PySem.W.keepIn K (.ref f) = true) : Fun K x qual st f (PySem.W.fnOf x qual (defArgs st) (defBody st) (defScope st) .none kV doc pm an cdv ct) := ⟨⟨oc, od, kV, doc, pm, an, cdv, ct, osl, rfl, l, c⟩, k⟩
end
section
variable {X : Cx}
theorem pv (i : Nat) {x : Str} {pos : Pos} (hN : X.N[i]? = some x := by rfl) (hv : Vis X.env.scope x := by first | exact Or.inl rfl | exact Or.inr (Or.inl rfl) | exact Or.inr (Or.inr rfl)) (hd : (x == ("__debug__" : Str)) = false := by decide)
    (hcd : (x == ("__classdict__" : Str)) = false := by decide) : PE X (.Name x pos) (tVar i) := pe_var hN hv hd hcd
end
theorem iteF {A B : Prop} (h : B) : if false = true then A else B := by
  rw [if_neg Bool.false_ne_true]
  exact h
theorem iteT {A B : Prop} (h : A) : if true = true then A else B := by
  rw [if_pos rfl]
  exact h
theorem ite2 {c A B : Prop} [Decidable c] (h1 : c → A) (h2 : ¬ c → B) : if c then A else B := by
  by_cases h : c
  · rw [if_pos h]
    exact h1 h
  · rw [if_neg h]
    exact h2 h
def Same (H H' : Hp) : Prop := ∀ b o, H b = some o → H' b = some o
theorem Same.refl (H : Hp) : Same H H := fun _ _ h => h
theorem Same.trans {H H1 H2 : Hp} (a : Same H H1) (b : Same H1 H2) : Same H H2 := fun c o h => b c o (a c o h)
theorem Same.free {H H' : Hp} (e : Same H H') {l : Addr} (h : H' l = Option.none) : H l = Option.none := by
  cases q : H l with
  | none => rfl
  | some o =>
    rw [e l o q] at h
    cases h
theorem Same.seq {K : PySem.W.Frag} {H H' : Hp} {a : Addr} {xs : List V} (e : Same H H') (h : SqL K H a xs) : SqL K H' a xs := by
  rcases h with (h | ⟨o, h⟩) | h
  · exact .inl (.inl (e _ _ h))
  · exact .inl (.inr ⟨o, e _ _ h⟩)
  · exact .inr h
end L2
set_option Elab.async false
set_option linter.all false
set_option maxRecDepth 100000
namespace L2
open PySem PySem.Spec PyProof.Rows
def cxBlk (X : Cx) (scope : Scope) (cl : List (Str × Addr)) (C : Addr) (N : List Str) (fp : List Addr) (s : Shared) (H : Hp) : Cx :=
  { X with N := N, s₀ := s, H₀ := H, env := compEnvC scope cl C X.env, outer := X.stack, ex := fp, fn := fun _ => false, pn := [], xe := fun _ _ => False }
def PTs (X : Cx) (ifs : List Expr) (t : TT) : Prop :=
  ∀ (pins : List (Addr × Obj)) (s : Shared) (σ : St) (H : Hp) (Q : Bool → Hp → Prop), Inv X pins σ H s → t σ H Q →
    wpAny (model X.prog X.w) X.A (forIn ifs true fun c r => if r = true then do let ok ← isTrue c X.env (eval c X.env); pure (ForInStep.yield ok) else pure (ForInStep.yield r)) (TP X pins σ Q) X.xe s
def tTrue : TT := fun _ H Q => Q true H
theorem pts_nil {X : Cx} : PTs X [] tTrue := fun _ _ _ H _ I h => wpAny_tests_nil ⟨H, I, h⟩
theorem pts_one {X : Cx} {c : Expr} {t : TT} (h : PT X c t) : PTs X [c] t := fun pins s σ H Q I q => wpAny_tests_one (h pins s σ H Q I q)
theorem codeAny_compLoop_go {prog : Program} {w : World} {A : Around} {R : Result → Shared → Prop} {s : Shared} {elt target iter : Expr} {ifs : List Expr} {scope : Scope} {pos : Pos} {it acc : Value} {env : Env} (I : Nat → Shared → Prop)
    (turn : ∀ n s, I n s → wpAny (model prog w) A (pyNext it) (fun r s₁ => match r with
      | none => R (.ok .next) s₁
      | some v => wpAny (model prog w) A (letOwnedTupleGo target it v) (fun _ s₁' => wpAny (model prog w) A (assign target env v) (fun _ s₂ =>
          wpAny (model prog w) A (forIn ifs true fun c r => if r = true then do let ok ← isTrue c env (eval c env); pure (ForInStep.yield ok) else pure (ForInStep.yield r)) (fun ok s₃ =>
            if ok = true then wpAny (model prog w) A (eval elt env) (fun x s₄ =>
              wpAny (model prog w) A (call (.builtin "list.append") [acc, x]) (fun _ s₅ => ∃ m, m < n ∧ I m s₅) (fun _ _ => False) s₄) (fun _ _ => False) s₃
            else ∃ m, m < n ∧ I m s₃) (fun _ _ => False) s₂) (fun _ _ => False) s₁') (fun _ _ => False) s₁) (fun _ _ => False) s)
    (n : Nat) (h : I n s) :
    codeAny (model prog w) A (.compLoop (.ListComp elt [⟨target, iter, ifs, 0⟩] scope pos) 0 it acc env) R s := by
  have lift : ∀ {α : Type} {t : Sem α} {Q : α → Shared → Prop} {E : Value → Shared → Prop} {s : Shared}, wpAny (model prog w) A t Q (fun _ _ => False) s → wpAny (model prog w) A t Q E s :=
    fun h => wpAny_mono h (fun _ _ q => q) fun _ _ q => q.elim
  refine codeAny_loop rfl I (fun n s hI => ?_) n h
  show wpAny _ A ((compTurn (.ListComp elt [⟨target, iter, ifs, 0⟩] scope pos) 0 it acc env).onRaise (fun x => do noteFrame x env; theTreesLotGoes x)) _ _ s
  refine wpAny_noted ?_
  rw [compTurn_list]
  refine wpAny_bind (wpAny_standAt (wpAny_bind (wpAny_mono (lift (turn n s hI)) (fun r s₁ h₁ => ?_) fun _ _ h' => h')))
  cases r with
  | none => exact wpAny_pure h₁
  | some v =>
    refine wpAny_bind (wpAny_mono (lift h₁) (fun _ s₁' h₁' => ?_) fun _ _ h' => h')
    refine wpAny_bind (wpAny_mono (lift h₁') (fun _ s₂ h₂ => wpAny_bind (wpAny_mono (lift h₂) (fun ok s₃ h₃ => ?_) fun _ _ h' => h')) fun _ _ h' => h')
    cases ok with
    | false => exact wpAny_pure ⟨rfl, h₃⟩
    | true =>
      exact wpAny_bind (wpAny_bind (wpAny_mono (lift h₃) (fun x s₄ h₄ => wpAny_bind (wpAny_mono (lift h₄) (fun _ s₅ h₅ => wpAny_pure (wpAny_pure ⟨rfl, h₅⟩)) fun _ _ h' => h')) fun _ _ h' => h'))
def BsOk (XN : List Str) (xn sn : List (Str × NameKind)) : List Str → List (Option Nat) → Prop
  | [], [] => True
  | _ :: N, none :: bs => BsOk XN xn sn N bs
  | x :: N, some j :: bs => (XN[j]? = some x ∧ xn.lookup x = some .cell ∧ sn.lookup x = some .free) ∧ BsOk XN xn sn N bs
  | _, _ => False
def bst (bs : List (Option Nat)) (σ : St) : St := bs.map fun o => o.bind fun j => (σ[j]?).join
theorem BsOk.len {XN : List Str} {xn sn : List (Str × NameKind)} : ∀ {N : List Str} {bs : List (Option Nat)}, BsOk XN xn sn N bs → bs.length = N.length
  | [], [], _ => rfl
  | _ :: N, none :: bs, h => congrArg (· + 1) (BsOk.len (N := N) (bs := bs) h)
  | _ :: N, some _ :: bs, h => congrArg (· + 1) (BsOk.len (N := N) (bs := bs) h.2)
theorem BsOk.get {XN : List Str} {xn sn : List (Str × NameKind)} : ∀ {N : List Str} {bs : List (Option Nat)} {i j : Nat}, BsOk XN xn sn N bs → bs[i]? = some (some j) → ∃ x, N[i]? = some x ∧ XN[j]? = some x ∧ xn.lookup x = some .cell ∧ sn.lookup x = some .free
  | [], [], _, _, _, e => by simp at e
  | _ :: N, none :: bs, 0, _, _, e => by simp at e
  | _ :: N, none :: bs, i + 1, j, h, e => by
    obtain ⟨x, h1, h2⟩ := BsOk.get (N := N) (bs := bs) (i := i) (j := j) h (by simpa using e)
    exact ⟨x, by simpa using h1, h2⟩
  | x :: N, some k :: bs, 0, j, h, e => by
    have : k = j := by simpa using e
    subst this
    exact ⟨x, rfl, h.1⟩
  | _ :: N, some k :: bs, i + 1, j, h, e => by
    obtain ⟨x, h1, h2⟩ := BsOk.get (N := N) (bs := bs) (i := i) (j := j) h.2 (by simpa using e)
    exact ⟨x, by simpa using h1, h2⟩
theorem relabel_free {env : Env} : ∀ {names : List (Str × NameKind)} {x : Str}, names.lookup x = some .free →
    ((names.map fun (n, k) => if (k == NameKind.free && env.scope.kind == .function && env.kindOf n == some .cell) then (n, NameKind.cell) else (n, k)).lookup x = some .cell ∨
    (names.map fun (n, k) => if (k == NameKind.free && env.scope.kind == .function && env.kindOf n == some .cell) then (n, NameKind.cell) else (n, k)).lookup x = some .free)
  | [], _, h => by simp at h
  | (n, k) :: r, x, h => by
    have ih := @relabel_free env r x
    simp only [List.map_cons]
    cases hx : x == n with
    | true =>
      simp only [List.lookup_cons, hx] at h
      cases h
      by_cases hc : (NameKind.free == NameKind.free && env.scope.kind == .function && env.kindOf n == some .cell) = true
      · rw [if_pos hc]; simp only [List.lookup_cons, hx]; simp
      · rw [if_neg hc]; simp only [List.lookup_cons, hx]; simp
    | false =>
      simp only [List.lookup_cons, hx] at h
      by_cases hc : (k == NameKind.free && env.scope.kind == .function && env.kindOf n == some .cell) = true
      · rw [if_pos hc]; simp only [List.lookup_cons, hx]; exact ih h
      · rw [if_neg hc]; simp only [List.lookup_cons, hx]; exact ih h
theorem relabel_back {env : Env} : ∀ {names : List (Str × NameKind)} {x : Str}, (∀ y ∈ names, y.2 ≠ .cell) →
    ((names.map fun (n, k) => if (k == NameKind.free && env.scope.kind == .function && env.kindOf n == some .cell) then (n, NameKind.cell) else (n, k)).lookup x = some .cell ∨
    (names.map fun (n, k) => if (k == NameKind.free && env.scope.kind == .function && env.kindOf n == some .cell) then (n, NameKind.cell) else (n, k)).lookup x = some .free) → names.lookup x = some .free
  | [], _, _, h => by simp at h
  | (n, k) :: r, x, hn, h => by
    have ih := @relabel_back env r x fun y hy => hn y (.tail _ hy)
    simp only [List.map_cons] at h
    cases hx : x == n with
    | true =>
      by_cases hc : (k == NameKind.free && env.scope.kind == .function && env.kindOf n == some .cell) = true
      · simp only [Bool.and_eq_true, beq_iff_eq] at hc
        simp only [List.lookup_cons, hx]
        rw [hc.1.1]
      · rw [if_neg hc] at h
        simp only [List.lookup_cons, hx] at h ⊢
        rcases h with h | h
        · exact absurd (Option.some.inj h) (hn (n, k) (.head _))
        · exact h
    | false =>
      simp only [List.lookup_cons, hx]
      by_cases hc : (k == NameKind.free && env.scope.kind == .function && env.kindOf n == some .cell) = true
      · rw [if_pos hc] at h; simp only [List.lookup_cons, hx] at h; exact ih h
      · rw [if_neg hc] at h; simp only [List.lookup_cons, hx] at h; exact ih h
structure Blk (X : Cx) (scope : Scope) (cl : List (Str × Addr)) (N : List Str) (bs : List (Option Nat)) : Prop where
  clos : closureFor scope X.env = pure cl
  kind : scope.kind = .function
  cell : ∀ y ∈ scope.names, y.2 ≠ .cell
  names : ∀ y ∈ scope.names, y.2 = .local → scope.names.lookup y.1 = some .local
  cl1 : ∀ p ∈ cl, X.env.cells.lookup p.1 = some p.2
  cl2 : ∀ y ∈ scope.names, y.2 = .free → (cl.lookup y.1).isSome = true
  bs : BsOk X.N X.env.scope.names scope.names N bs
section
variable {X : Cx} {scope : Scope} {cl : List (Str × Addr)} {N : List Str} {bs : List (Option Nat)} {pins : List (Addr × Obj)} {σ : St} {H : Hp} {s : Shared} {fp : List Addr} {C : Addr}
theorem Blk.c1 (B : Blk X scope cl N bs) {x : Str} {c : Addr} (h : cl.lookup x = some c) : X.env.cells.lookup x = some c := B.cl1 (x, c) (PySem.mem_of_lookup h)
theorem Blk.c2 (B : Blk X scope cl N bs) {x : Str} (h : (compEnvC scope cl C X.env).kindOf x = some .cell ∨ (compEnvC scope cl C X.env).kindOf x = some .free) : ∃ c, cl.lookup x = some c := by
  have h1 := relabel_back (env := X.env) B.cell h
  exact Option.isSome_iff_exists.mp (B.cl2 (x, .free) (PySem.mem_of_lookup h1) rfl)
theorem Blk.ok (B : Blk X scope cl N bs) (I : Inv X pins σ H s) (hf : ∀ b ∈ fp, FpOk X pins H b) (ho : ∀ b ∈ fp, ∃ o, s.heap.get? b = some o ∧ ∀ v, o.data ≠ .cell v) (hC : s.heap.objs.size ≤ C) : (cxBlk X scope cl C N fp s H).Ok := by
  refine ⟨I.ok.mod, B.kind, I.ok.glob, I.ok.blt, hC, fun x y c h1 h2 => I.ok.inj x y c (B.c1 h1) (B.c1 h2), fun x h => B.c2 h, fun x c h _ => (Bool.false_ne_true h).elim, I.ok.hd, I.ok.frames, .inl rfl, fun b hb => ?_, I.bs, Nat.le_trans I.ok.bsz I.sz, fun b o e hb => ?_, fun b hb hb' => ?_, I.stack, I.stkFree⟩
  · obtain ⟨o, e, _⟩ := ho b hb
    obtain ⟨_, _, _, _, f4, _⟩ := hf b hb
    exact ⟨Nat.ne_of_lt (Nat.lt_of_lt_of_le (Heap.lt_size e) hC), fun x c h => f4 x c (B.c1 h)⟩
  · obtain ⟨_, _, _, f3, _⟩ := hf b hb
    rcases f3 with z | z
    · exact I.ok.noex b o e z
    · exact absurd (Nat.lt_of_lt_of_le (Heap.lt_size e) (Nat.le_trans I.ok.bsz z)) (Nat.lt_irrefl _)
  · obtain ⟨_, f1, f2, _⟩ := hf b hb
    rcases List.mem_cons.mp (I.stkSub b hb') with z | z
    · exact f1 z
    · exact f2 z
theorem Blk.inv (B : Blk X scope cl N bs) (I : Inv X pins σ H s) (hf : ∀ b ∈ fp, FpOk X pins H b) (ho : ∀ b ∈ fp, ∃ o, s.heap.get? b = some o ∧ ∀ v, o.data ≠ .cell v) (hC : s.heap.objs.size ≤ C) {h' : Heap} {t' : Nat}
    (hk : ∀ b o, s.heap.get? b = some o → h'.get? b = some o) {m : Str → Option Value} (hn : h'.Ns C m) {D : Addr} {oD : Obj} (hD : h'.get? D = some oD) (hD1 : s.heap.objs.size ≤ D) (hDC : D ≠ C) (hDd : ∀ v, oD.data ≠ .cell v) :
    Inv (cxBlk X scope cl C N fp s H) [(D, oD)] (bst bs σ) H { s with heap := h', toks := t' } := by
  have ok : (cxBlk X scope cl C N fp s H).Ok := B.ok I hf ho hC
  refine ⟨ok, rfl, I.bare, Un.kept hk, ⟨m, hn, fun i x v e1 e2 e3 => ?_⟩, fun x c h => ?_, I.hok.fresh hC, fun x c h => I.freeC x c (B.c1 h), fun p hp => ?_, I.hok.kept hk, ?_⟩
  · have e2' : (bst bs σ)[i]? = some (some v) := e2
    unfold bst at e2'
    rw [List.getElem?_map] at e2'
    cases q : bs[i]? with
    | none => rw [q] at e2'; cases e2'
    | some o =>
      rw [q] at e2'
      cases o with
      | none => cases e2'
      | some j =>
        obtain ⟨y, y1, y2, y3, y4⟩ := B.bs.get q
        have e1' : N[i]? = some x := e1
        rw [e1'] at y1
        cases y1
        have e4 : σ[j]? = some (some v) := by
          have z : (σ[j]?).join = some v := Option.some.inj e2'
          cases w : σ[j]? with
          | none => rw [w] at z; cases z
          | some o => rw [w] at z; rw [show o = some v from z]
        obtain ⟨mx, hmx, lx⟩ := I.loc
        obtain ⟨u, r, l⟩ := lx j x v y2 e4 (.inr (.inl y3))
        refine ⟨u, r, .inr ⟨relabel_free (env := X.env) y4, ?_⟩⟩
        rcases l with ⟨l1, _⟩ | ⟨_, c, l2, l3⟩
        · have l1' : X.env.scope.names.lookup x = some .local := l1
          rw [y3] at l1'
          cases l1'
        · obtain ⟨c', h'⟩ := Option.isSome_iff_exists.mp (B.cl2 (x, .free) (PySem.mem_of_lookup y4) rfl)
          have h2 := B.c1 h'
          rw [l2] at h2
          cases h2
          obtain ⟨oc, hoc, hd⟩ := l3
          exact ⟨c, h', oc, hk _ _ hoc, hd⟩
  · obtain ⟨v, oc, hoc, hd⟩ := I.cell x c (B.c1 h)
    exact ⟨v, oc, hk _ _ hoc, hd⟩
  · have e : p = (D, oD) := by simpa [cxBlk] using hp
    subst e
    refine ⟨hD, I.hok.fresh hD1, hDC, fun z => ?_, hDd⟩
    have z' : D ∈ frs X.stack := z
    rcases List.mem_cons.mp (I.stkSub D z') with q | q
    · exact Nat.lt_irrefl _ (Nat.lt_of_lt_of_le I.lt (by rw [← q]; exact hD1))
    · exact I.nofs hD1 q
  · show (bst bs σ).length = N.length
    unfold bst
    rw [List.length_map]
    exact B.bs.len
end
def tLC (bs : List (Option Nat)) (wi : TI) (g : TG) (tt : TT) (te : TE) : TE := fun σ H Q => wi σ H fun J H1 => ∃ W : Nat → Nat → List V → St → Hp → Prop, (∃ m, W 0 m [] (bst bs σ) H1) ∧ ∀ i m ys σ' H', W i m ys σ' H' →
  (J.stop i H' ∧ ys.length ≤ sizeLine ∧ ∀ p, H' p = none → Q (.ref p) (upd H' p (.lst ys))) ∨
  (J.go i H' ∧ ys.length < sizeLine ∧ ∃ N : List V → St → Hp → Prop, (∀ zs σ2 H2, N zs σ2 H2 → ∃ m', m' < m ∧ W (i + 1) m' zs σ2 H2) ∧ ∀ x H2, J.yld i H' x H2 → g x σ' H2 fun σ3 H3 => tt σ3 H3 fun b H4 =>
    if b = true then te σ3 H4 fun v H5 => N (ys ++ [v]) σ3 H5 else N ys σ3 H4)
theorem pe_lc {X : Cx} {scope : Scope} {cl : List (Str × Addr)} {N : List Str} {bs : List (Option Nat)} {tg iter elt : Expr} {ifs : List Expr} {pos : Pos} {wi : TI} {g : TG} {tt : TT} {te : TE} (B : Blk X scope cl N bs) (hc : X.calm = true)
    (hi : PI X tg iter wi) (hg : ∀ C fp s H, PG (cxBlk X scope cl C N fp s H) tg g) (ht : ∀ C fp s H, PTs (cxBlk X scope cl C N fp s H) ifs tt) (he : ∀ C fp s H, PE (cxBlk X scope cl C N fp s H) elt te)
    (hs : ∀ x, foldedSetIterable iter X.env x = pure x := by intro _; rfl) :
    PE X (.ListComp elt [⟨tg, iter, ifs, 0⟩] scope pos) (tLC bs wi g tt te) := by
  intro pins s σ H Q I h
  rw [eval_ListComp]
  refine wpAny_comprehension_free (use := none) rfl hs B.clos B.kind B.names (thn (hi pins s σ H _ I h) fun v s1 h1 => thn h1 fun itv s2 h2 => ?_)
  obtain ⟨it, fp, tn, J, H2, rfl, I2, T, st2, f2, W, ⟨m0, w0⟩, turn⟩ := h2
  refine wpAny_newObj_type (wpAny_newFunctionEnv B.cell (by intro y hy; simp at hy) (fun h₁ hns₁ hsb₁ => ?_) B.kind)
  dsimp only at hns₁ hsb₁ ⊢
  generalize hG : s2.heap.push { cls := .type "list", dict := none, data := .seq ([] : List Value).toArray } = G at hns₁ hsb₁ ⊢
  have hC : G.objs.size = s2.heap.objs.size + 1 := by rw [← hG, Heap.size_push]
  have hDC : s2.heap.objs.size ≠ G.objs.size := by rw [hC]; exact Nat.ne_of_lt (Nat.lt_succ_self _)
  have hCle : s2.heap.objs.size ≤ G.objs.size := by rw [hC]; exact Nat.le_succ _
  have old : ∀ b o, s2.heap.get? b = some o → h₁.get? b = some o := fun b o e => hsb₁.extBut b o (by rw [hC]; exact Nat.ne_of_lt (Nat.lt_succ_of_lt (Heap.lt_size e))) (Heap.get?_push_of_some _ (hG ▸ Heap.get?_push_of_some _ e))
  have hacc : h₁.get? s2.heap.objs.size = some { cls := .type "list", data := .seq ([] : List Value).toArray 0 } := hsb₁.extBut _ _ hDC (Heap.get?_push_of_some _ (hG ▸ Heap.get?_push_size _ rfl))
  have stat : ∀ {D : Addr} {o : Obj} {H' : Hp}, s2.heap.objs.size ≤ D → (∀ b ∈ fp, H' b = none) → ∀ b ∈ fp, FpOk (cxBlk X scope cl G.objs.size N fp s2 H2) [(D, o)] H' b := fun {D o H'} hD hn b hb => by
    obtain ⟨ob, eb, _⟩ := T.obj _ _ st2 b hb
    obtain ⟨_, f1, f3, f4, f5, _⟩ := f2 b hb
    have ok := B.ok I2 f2 (T.obj _ _ st2) (C := G.objs.size) hCle
    refine ⟨hn b hb, (ok.exf b hb).1, ok.exfs b hb, .inl hb, (ok.exf b hb).2, fun p hp => ?_⟩
    have e : p = (D, o) := by simpa [cxBlk] using hp
    subst e
    exact Nat.ne_of_gt (Nat.lt_of_lt_of_le (Heap.lt_size eb) hD)
  have loop : ∀ s₃ : Shared, s₃ = { s2 with heap := h₁, toks := s2.toks + ([] : List (Str × Value)).length } →
      codeAny (model X.prog X.w) X.A (.compLoop (.ListComp elt [⟨tg, iter, ifs, 0⟩] scope pos) 0 (.ref it) (.ref s2.heap.objs.size) (compEnvC scope cl G.objs.size X.env))
        (compPost (model X.prog X.w) X.A X.xe none (EP X pins σ Q) (.ref s2.heap.objs.size) G.objs.size) s₃ := by
    rintro s₃ rfl
    refine codeAny_compLoop_go (fun n s' => ∃ i ys its k σ' H', Inv (cxBlk X scope cl G.objs.size N fp s2 H2) [(s2.heap.objs.size, { cls := .type "list", data := .seq (List.toArray its) k })] σ' H' s' ∧ Vals ys its ∧ tn i s'.heap ∧ (∀ b ∈ fp, H' b = none) ∧ W i n ys σ' H') ?_ m0
      ⟨0, [], [], 0, bst bs σ, H2, B.inv I2 f2 (T.obj _ _ st2) hCle old hns₁ hacc (Nat.le_refl _) hDC (fun v z => nomatch z), .nil, T.keep _ _ _ st2 fun b _ o e => old b o e, fun b hb => (f2 b hb).1, w0⟩
    rintro n s3 ⟨i, ys, its, k, σ3, H3, I3, rv, st3, fr3, w3⟩
    have pD := I3.pin _ (List.mem_append_right _ (.head _))
    rcases turn i n ys σ3 H3 w3 with ⟨stop, hz, qn⟩ | ⟨go, hz, NN, hNN, step⟩
    · refine thn (T.done (cxBlk X scope cl G.objs.size N fp s2 H2) rfl rfl rfl hc i _ s3 σ3 H3 (fun _ _ => False) I3 (stat (Nat.le_refl _) fr3) st3 stop) fun r s4 ⟨hr, I4⟩ => ?_
      subst hr
      have pD4 := I4.pin _ (List.mem_append_right _ (.head _))
      obtain ⟨m4, hn4, _⟩ := I4.loc
      refine ⟨m4, hn4, fun h5 sb5 => ?_⟩
      have hD5 : h5.get? s2.heap.objs.size = some { cls := .type "list", data := .seq (List.toArray its) k } := sb5.extBut _ _ hDC pD4.1
      have k5 : ∀ b o, b ≠ G.objs.size → s4.heap.get? b = some o → h5.get? b = some o := fun b o hb e => sb5.extBut b o hb e
      have hC4 : H3 G.objs.size = none := I4.free
      have hok4 : HOk X.prog X.w H3 s4.heap := I4.hok
      have hok5 : HOk X.prog X.w (upd H3 s2.heap.objs.size (.lst ys)) h5 := fun b u e => by
        by_cases hb : b = s2.heap.objs.size
        · subst hb
          rw [upd_same] at e
          cases e
          exact ⟨hz, its, k, rv, hD5⟩
        · rw [upd_ne hb] at e
          have nC : ∀ c u', H3 c = some u' → c ≠ G.objs.size := fun c u' q z => by rw [z, hC4] at q; cases q
          have nD : ∀ c u', H3 c = some u' → c ≠ s2.heap.objs.size := fun c u' q z => by rw [z, pD4.2.1] at q; cases q
          refine (hok4 b u e).stay (fun c v hc' q => k5 c v ?_ q) (fun c q => by rw [upd_ne (nD c _ q)]; exact q) fun c xs q => by rw [upd_ne (nD c _ q)]; exact q
          rcases hc' with z | z
          · rw [z]; exact nC b u e
          · exact nC c _ z
      have un4 : Un (frs X.stack) fp H2 H3 s2.heap s4.heap := I4.base
      have neC : ∀ b o, s2.heap.get? b = some o → b ≠ G.objs.size := fun b o e => Nat.ne_of_lt (Nat.lt_of_lt_of_le (Heap.lt_size e) hCle)
      have neD : ∀ b o, s2.heap.get? b = some o → b ≠ s2.heap.objs.size := fun b o e => Nat.ne_of_lt (Heap.lt_size e)
      have un5 : Un (frs X.stack) fp H2 (upd H3 s2.heap.objs.size (.lst ys)) s2.heap h5 := {
        keep := fun b o e n hb hx => k5 b o (neC b o e) (un4.keep b o e n hb hx)
        slot := fun b o e n hb hx => let ⟨sl, q⟩ := un4.slot b o e n hb hx; ⟨sl, k5 b _ (neC b o e) q⟩
        free := fun b o e n hx => by rw [upd_ne (neD b o e)]; exact un4.free b o e n hx
        there := fun b o e hx => let ⟨o', q⟩ := un4.there b o e hx; ⟨o', k5 b _ (neC b o e) q⟩
        tups := fun b xs e => by rw [upd_ne (ne_of_none e (I2.hok.fresh (Nat.le_refl _)))]; exact un4.tups b xs e
        frzs := fun b o u e => by rw [upd_ne (ne_of_none e (I2.hok.fresh (Nat.le_refl _)))]; exact un4.frzs b o u e
        tbls := fun b ps e => by rw [upd_ne (ne_of_none e (I2.hok.fresh (Nat.le_refl _)))]; exact un4.tbls b ps e }
      refine ⟨.ref s2.heap.objs.size, _, I2.call' (s' := { s4 with heap := h5 }) ((show s4.os = s2.os from I4.os)) un5 hok5 I4.bare (fun b hb => ?_), rfl, qn _ pD4.2.1⟩
      obtain ⟨_, f1, f3, f4, f5, f6⟩ := f2 b hb
      exact ⟨f4, f1, f5, f6⟩
    · refine thn (T.item (cxBlk X scope cl G.objs.size N fp s2 H2) rfl rfl rfl hc i _ s3 σ3 H3 (fun _ _ => False) I3 (stat (Nat.le_refl _) fr3) st3 go) fun r s4 ⟨u, hr, h4⟩ => ?_
      subst hr
      refine thn h4 fun _ s5 ⟨x, H5, I5, r5, y5, st5, fr5⟩ => ?_
      have I5' := I5.pinned (stat (Nat.le_refl _) fr5) (T.obj _ _ st5)
      refine thn (hg _ _ _ _ _ s5 σ3 H5 x u _ I5' r5 (step x H5 y5)) fun _ s6 ⟨σ6, H6, I6, q6⟩ => ?_
      refine thn (ht _ _ _ _ _ s6 σ6 H6 _ I6 q6) fun ok s7 ⟨H7, I7, q7⟩ => ?_
      have back : ∀ {σ8 : St} {H8 : Hp} {s8 : Shared} {pl : List (Addr × Obj)}, Inv (cxBlk X scope cl G.objs.size N fp s2 H2) (pl ++ pinsAt fp s5.heap) σ8 H8 s8 → tn (i + 1) s8.heap ∧ ∀ b ∈ fp, H8 b = none := fun {σ8 H8 s8 pl} I8 =>
        ⟨T.keep _ _ _ st5 fun b hb o e => (I8.pin (b, o) (List.mem_append_right _ (List.mem_append_right _ (mem_pinsAt hb e)))).1, fun b hb => by
          obtain ⟨o, e, d⟩ := T.obj _ _ st5 b hb
          exact (I8.pin (b, o) (List.mem_append_right _ (List.mem_append_right _ (mem_pinsAt hb e)))).2.1⟩
      cases ok with
      | false =>
        rw [if_neg Bool.false_ne_true] at q7 ⊢
        obtain ⟨m', hm, w7⟩ := hNN _ _ _ q7
        exact ⟨m', hm, i + 1, ys, its, k, σ6, H7, I7.unpinned, rv, (back I7).1, (back I7).2, w7⟩
      | true =>
        rw [if_pos rfl] at q7 ⊢
        refine thn (he _ _ _ _ _ s7 σ6 H7 _ I7 q7) fun y s8 ⟨v8, H8, I8, r8, q8⟩ => ?_
        obtain ⟨m', hm, w8⟩ := hNN _ _ _ q8
        have pD8 := I8.pin _ (List.mem_append_right _ (List.mem_append_left _ (.head _)))
        have hl := rv.length
        refine wpAny_list_append_plain ⟨k, pD8.1⟩ (fun h9 pl9 sb9 => ?_) (by rw [List.size_toArray]; omega)
        obtain ⟨k9, e9⟩ := pl9
        have e9' : h9.get? s2.heap.objs.size = some { cls := .type "list", data := .seq (List.toArray (its ++ [y])) k9 } := by rw [e9]; simp
        have I8' : Inv (cxBlk X scope cl G.objs.size N fp s2 H2) (pinsAt fp s5.heap) σ6 H8 s8 := I8.pins_of fun p hp => I8.pin p (List.mem_append_right _ (List.mem_append_right _ hp))
        have I9 : Inv (cxBlk X scope cl G.objs.size N fp s2 H2) (pinsAt fp s5.heap) σ6 H8 { s8 with heap := h9 } := I8'.turned (it := s2.heap.objs.size) (t' := s8.toks) (fun b o hb e => sb9.extBut b o hb e) pD8.2.1 pD8.2.2.1 (.inr (Nat.le_refl _))
          (fun x c e z => by
            obtain ⟨vc, oc, hoc, hd⟩ := I8.cell x c e
            rw [z, pD8.1] at hoc
            cases hoc
            cases hd)
          fun p hp z => by
            have hp' : p ∈ pinsAt fp s5.heap := by simpa [cxBlk] using hp
            obtain ⟨q1, q2⟩ := of_pinsAt hp'
            obtain ⟨ob, eb, _⟩ := T.obj _ _ st2 p.1 q1
            exact Nat.lt_irrefl _ (by have := Heap.lt_size eb; rw [z] at this; exact this)
        have hk9 : ∀ b ∈ fp, ∀ o, s8.heap.get? b = some o → h9.get? b = some o := fun b hb o e => sb9.extBut b o (fun z => by
          obtain ⟨ob, eb, _⟩ := T.obj _ _ st2 b hb
          exact Nat.lt_irrefl _ (by have := Heap.lt_size eb; rw [z] at this; exact this)) e
        refine ⟨m', hm, i + 1, ys ++ [v8], its ++ [y], k9, σ6, H8, I9.pins_of fun p hp => ?_, rv.append (.cons r8 .nil), T.keep _ _ _ (back I8).1 hk9, (back I8).2, w8⟩
        have e : p = (s2.heap.objs.size, { cls := .type "list", data := .seq (List.toArray (its ++ [y])) k9 }) := by simpa using hp
        subst e
        exact ⟨e9', pD8.2.1, pD8.2.2.1, pD8.2.2.2.1, fun v z => nomatch z⟩
  exact codeAny_compStart_list (loop _ rfl) (T.self _ 0 _ _ _ (T.keep _ _ _ st2 fun b _ o e => old b o e) (loop _ rfl))
theorem lc_tup {K : PySem.W.Frag} {a : Addr} {xs : List V} {g : TG} {tt : TT} {te : TE} {σ : St} {H : Hp} {Q : VK} (Pv : Nat → List V → St → Hp → Prop) (hz : xs.length ≤ sizeLine) (h0 : Pv 0 [] σ H) (hl : ∀ i ys σ H, i ≤ xs.length → Pv i ys σ H → SqT K H a xs ∧ ys.length ≤ i)
    (hs : ∀ i x ys σ H, xs[i]? = some x → Pv i ys σ H → g x σ H fun σ3 H3 => tt σ3 H3 fun b H4 => if b = true then te σ3 H4 fun v H5 => Pv (i + 1) (ys ++ [v]) σ3 H5 else Pv (i + 1) ys σ3 H4)
    (hd : ∀ ys σ H, Pv xs.length ys σ H → ∀ p, H p = none → Q (.ref p) (upd H p (.lst ys))) :
    ∃ W : Nat → Nat → List V → St → Hp → Prop, (∃ m, W 0 m [] σ H) ∧ ∀ i m ys σ' H', W i m ys σ' H' →
      ((Itt K a).stop i H' ∧ ys.length ≤ sizeLine ∧ ∀ p, H' p = none → Q (.ref p) (upd H' p (.lst ys))) ∨
      ((Itt K a).go i H' ∧ ys.length < sizeLine ∧ ∃ N : List V → St → Hp → Prop, (∀ zs σ2 H2, N zs σ2 H2 → ∃ m', m' < m ∧ W (i + 1) m' zs σ2 H2) ∧ ∀ x H2, (Itt K a).yld i H' x H2 → g x σ' H2 fun σ3 H3 => tt σ3 H3 fun b H4 =>
        if b = true then te σ3 H4 fun v H5 => N (ys ++ [v]) σ3 H5 else N ys σ3 H4) := by
  refine ⟨fun i m ys σ H => m = xs.length - i ∧ i ≤ xs.length ∧ Pv i ys σ H, ⟨xs.length, by simp, Nat.zero_le _, h0⟩, ?_⟩
  rintro i m ys σ H ⟨rfl, hi, p⟩
  obtain ⟨q, ql⟩ := hl i ys σ H hi p
  by_cases hlt : i < xs.length
  · refine .inr ⟨⟨xs, xs[i], q, by simp [hlt]⟩, by omega, Pv (i + 1), fun zs σ' H' p' => ⟨xs.length - (i + 1), by omega, rfl, hlt, p'⟩, fun x H' y => ?_⟩
    obtain ⟨e, y⟩ := y
    subst e
    exact hs i x ys σ _ (y xs q) p
  · have e : i = xs.length := by omega
    subst e
    exact .inl ⟨⟨xs, q, Nat.le_refl _⟩, by omega, hd ys σ H p⟩
end L2
set_option Elab.async false
set_option linter.all false
set_option maxRecDepth 100000
namespace L2
open PySem PySem.Spec PyProof.Rows
def BM (mg : Str → Option Value) (h : Heap) : Prop :=
  ∃ bm ob, mg "__builtins__" = some (.ref bm) ∧ bm ≠ builtinsNs ∧ h.get? bm = some ob ∧ ob.cls = .type "module" ∧ ob.dict = some builtinsNs ∧ ob.data = .plain
theorem law_callT {P : Program} {w : World} {K : PySem.W.Frag} {mg mb : Str → Option Value} {CX : CXT} {k : Nat} {fa a : Addr} {fd : FuncData} {x : Str} {sp : Sp} {s₁ : Shared} {vs : List Value} {ns : List Int} {ts : List Addr}
    (KX : K.In s₁.heap) (hns : s₁.heap.Ns mainGlobals mg) (hb : s₁.heap.Ns builtinsNs mb) (hbb : ∀ x : Str, x ≠ "__name__" → mb x = bootBuiltins x) (hlim : s₁.heap.NoLimit) (hg : s₁.gens = #[])
    (ha : s₁.heap.get? a = some { cls := .type "list", data := .seq vs.toArray }) (hi : IntsAre vs ns) (hl : ns.length ≤ sizeLine) (hr : Room k callerA)
    (hT : ∀ Pt ∈ ts, s₁.heap.get? Pt = some (PySem.W.tabObj #[]) ∧ isCodeTable s₁.heap Pt) (hKn : PySem.W.noTabs K = true) (hbm : BM mg s₁.heap)
    (F : ∀ base : Heap, K.In base → base.Ns mainGlobals mg → BM mg base → FnOk P w K mg base CX k fa fd [x] sp) (hbind : ∀ (s : Shared) (u : Value), BindsTo s fd ⟨[u], []⟩ [(x, u)])
    (hsp : ∀ H : Hp, (∀ Pt ∈ ts, H Pt = some (.tbl #[])) → SqL K H a (ns.map V.int) → sp [.ref a] H (fun v _ => v = .bl true) fun _ _ _ => False)
    (hCX : ∀ H e s', CX [] H s₁ (fun _ _ _ => False) e s' → False) :
    codeAny (model P w) callerA (.call (.ref fa) ⟨[.ref a], []⟩) (fun r s' => r = .ok (.ret (.bool true)) ∧ OldK s₁.heap s'.heap ∧ s'.os = s₁.os ∧ AllBare s'.gens) s₁ := by
  have rv := vals_ints hi
  have lenV := hi.length
  have aT : a ∉ ts := fun z => by
    have e := (hT a z).1
    rw [ha] at e
    cases e
  have core : ∀ H : Hp, SqL K H a (ns.map V.int) → HOk P w H s₁.heap → (∀ b, H b ≠ none → b = a ∨ b ∈ ts) → (H a ≠ none → K.lookup a = none) → (∀ u, H a = some u → ∃ o xs, u = .frz o (.lst xs)) → (∀ Pt ∈ ts, H Pt = some (.tbl #[])) →
      codeAny (model P w) callerA (.call (.ref fa) ⟨[.ref a], []⟩) (fun r s' => r = .ok (.ret (.bool true)) ∧ OldK s₁.heap s'.heap ∧ s'.os = s₁.os ∧ AllBare s'.gens) s₁ := by
    intro H hS hok hA hK hfz htb
    have base_of : ∀ {b : Addr} {o : Obj}, s₁.heap.get? b = some o → H b = none → (hidT s₁.heap H).get? b = some o := fun e n => hidT_get e n
    have free_of : ∀ {b : Addr} {o : Obj}, s₁.heap.get? b = some o → o ≠ { cls := .type "list", data := .seq vs.toArray } → o ≠ PySem.W.tabObj #[] → H b = none := fun {b o} e n1 n2 => by
      cases q : H b with
      | none => rfl
      | some u =>
        rcases hA b (by rw [q]; simp) with z | z
        · subst z
          rw [ha] at e; cases e
          exact absurd rfl n1
        · rw [(hT b z).1] at e; cases e
          exact absurd rfl n2
    have noA : ∀ {b : Addr} {o : Obj} {es : Array DictEntry} {ep : Nat}, s₁.heap.get? b = some o → o.data = .dict es ep → H b = none := fun {b o es ep} e d =>
      free_of e (fun z => by rw [z] at d; cases d) fun z => by rw [z] at d; cases d
    have nsK : ∀ {b : Addr} {m : Str → Option Value}, s₁.heap.Ns b m → (hidT s₁.heap H).Ns b m := fun {b m} ⟨o, es, ep, e, d, r⟩ => ⟨o, es, ep, base_of e (noA e d), d, r⟩
    have hKb : K.In (hidT s₁.heap H) := fun b o e => base_of (KX b o e) (by
      cases q : H b with
      | none => rfl
      | some u =>
        rcases hA b (by rw [q]; simp) with z | z
        · subst z
          rw [hK (by rw [q]; simp)] at e; cases e
        · have e1 := (hT b z).1
          rw [KX b o e] at e1
          cases e1
          have h2 := List.all_eq_true.mp hKn (b, _) (PySem.W.mem_of_lookupK e)
          exact absurd (show false = true from h2) Bool.false_ne_true)
    have hM : Mod K mg (hidT s₁.heap H) := ⟨hKb, nsK hns, ⟨mb, nsK hb, hbb⟩, let ⟨mc, h1, h2⟩ := hlim; ⟨mc, nsK h1, h2⟩⟩
    have hBM : BM mg (hidT s₁.heap H) := by
      obtain ⟨bm, ob, b1, b2, b3, b4, b5⟩ := hbm
      exact ⟨bm, ob, b1, b2, base_of b3 (free_of b3 (fun z => by rw [z] at b4; exact absurd (Value.type.inj b4) (by decide)) fun z => by rw [z] at b4; cases b4), b4, b5⟩
    have e0 : Env0 P w K mg (hidT s₁.heap H) callerA [] s₁ H := ⟨rfl, hM, fun b o e => of_hidT e, Nat.le_of_eq (hidT_size _ _), trivial, fun b hb => absurd (show b ∈ ([] : List Addr) from hb) (by simp), hok, .of_eq hg⟩
    refine codeAny_mono ((F _ hKb (nsK hns) hBM).run callerA [] s₁ H ⟨[.ref a], []⟩ [.ref a] [.ref a] _ _ hr e0 (hbind s₁ (.ref a)) (.cons rfl .nil) (hsp H htb hS)) fun r s' h => ?_
    cases r with
    | error e => exact (hCX H e s' h).elim
    | ok fl =>
      cases fl with
      | next => exact False.elim h
      | brk => exact False.elim h
      | cont => exact False.elim h
      | ret u =>
        obtain ⟨v, H', os, bare, un, hok', r', q⟩ := h
        have q' : v = .bl true := q
        subst q'
        obtain rfl : u = Value.bool true := r'
        have key : ∀ b o, s₁.heap.get? b = some o → s'.heap.get? b = some o ∨ (b ∈ ts ∧ o = PySem.W.tabObj #[] ∧ ∃ ps, s'.heap.get? b = some (PySem.W.tabObj ps)) := fun b o e => by
          cases q : H b with
          | none => exact .inl (un.keep b o e q (by intro z; exact absurd (show b ∈ ([] : List Addr) from z) (by simp)) (by simp))
          | some u =>
            rcases hA b (by rw [q]; simp) with z | z
            · subst z
              obtain ⟨ob, xs, rfl⟩ := hfz u q
              have z2 := un.frzs b ob _ q
              obtain ⟨e1, _⟩ := hok b _ q
              obtain ⟨e2, _⟩ := hok' b _ z2
              rw [e] at e1; cases e1
              exact .inl e2
            · have e1 := (hT b z).1
              rw [e] at e1; cases e1
              obtain ⟨more, z2⟩ := un.tbls b _ (htb b z)
              exact .inr ⟨z, rfl, _, hok' b _ z2⟩
        refine ⟨rfl, ⟨fun b o e => ?_, fun b o e => ?_⟩, os, bare⟩
        · rcases key b o e with z | ⟨z, rfl, ps, z2⟩
          · exact .inl z
          · exact .inr (.inl ⟨(hT b z).2, rfl, #[], ps, rfl, by rw [z2]; simp⟩)
        · rcases key b o e with z | ⟨z, rfl, ps, z2⟩
          · exact ⟨_, z⟩
          · exact ⟨_, z2⟩
  have tOk : ∀ {H : Hp} {Pt : Addr}, Pt ∈ ts → ObjOk P w H s₁.heap Pt (.tbl #[]) := fun {H Pt} z => (hT Pt z).1
  cases hk : K.lookup a with
  | some o =>
    have e := KX a o hk
    rw [ha] at e
    cases e
    refine core (fun b => if b ∈ ts then some (.tbl #[]) else none) (.inr ⟨_, vs.toArray, _, hk, rfl, rfl, rfl, by rw [List.size_toArray, lenV]; exact hl, by simpa using rv⟩) (fun b u z => ?_) (fun b z => ?_) (fun z => absurd (if_neg aT) z) (fun u z => by rw [if_neg aT] at z; cases z) fun Pt z => if_pos z
    · by_cases hb : b ∈ ts
      · have z' := (if_pos hb).symm.trans z
        cases z'
        exact tOk hb
      · have z' := (if_neg hb).symm.trans z
        cases z'
    · by_cases hb : b ∈ ts
      · exact .inr hb
      · exact absurd (if_neg hb) z
  | none =>
    refine core (fun b => if b = a then some (.frz { cls := .type "list", data := .seq vs.toArray } (.lst (ns.map V.int))) else if b ∈ ts then some (.tbl #[]) else none) (.inl (.inr ⟨{ cls := .type "list", data := .seq vs.toArray }, if_pos rfl⟩)) (fun b u z => ?_) (fun b z => ?_) (fun _ => hk)
      (fun u z => by rw [if_pos rfl] at z; cases z; exact ⟨_, _, rfl⟩) fun Pt z => by rw [if_neg (fun (q : Pt = a) => aT (q ▸ z)), if_pos z]
    · by_cases hb : b = a
      · have z' := (if_pos hb).symm.trans z
        cases z'
        subst hb
        exact ⟨ha, by rw [List.length_map]; exact hl, vs, _, rv, ha⟩
      · have z' := (if_neg hb).symm.trans z
        by_cases hb2 : b ∈ ts
        · rw [if_pos hb2] at z'
          cases z'
          exact tOk hb2
        · rw [if_neg hb2] at z'
          cases z'
    · by_cases hb : b = a
      · exact .inl hb
      · by_cases hb2 : b ∈ ts
        · exact .inr hb2
        · exact absurd ((if_neg hb).trans (if_neg hb2)) z
theorem walk_ofT {l : PySem.W.OpenLaw} {n k : Nat} {q : Program} {loose : List Str} {XP : (Str → Option Value) → Heap → Prop} {YP : World → Heap → Prop} {d : DefRec} {K : Params → PySem.W.Frag} {sp : PySem.W.Frag → Sp} {x : Str} {ts : List Addr}
    (hn : l.most = some n) (hn2 : n ≤ sizeLine) (hdf : d.params.defaults = []) (hr : Room k callerA)
    (hY : ∀ (w : World) (h : Heap), YP w h → (K w.params).In h) (hY2 : ∀ (w : World) (h : Heap), YP w h → ∀ Pt ∈ ts, h.get? Pt = some (PySem.W.tabObj #[]))
    (hKn : ∀ w : World, PySem.W.noTabs (K w.params) = true) (hC : ∀ w : World, ∀ Pt ∈ ts, ∃ c, PySem.W.codeHdIn (K w.params) c Pt = true)
    (F : ∀ (w : World) (mg : Str → Option Value) (fa : Addr) (h : Heap), (K w.params).In h → h.Ns mainGlobals mg → mg d.name = some (.ref fa) →
      ∃ fd : FuncData, (∀ (s : Shared) (u : Value), BindsTo s fd ⟨[u], []⟩ [(x, u)]) ∧
        ∀ base : Heap, (K w.params).In base → base.Ns mainGlobals mg → BM mg base → FnOk l.prog w (K w.params) mg base CX0 k fa fd [x] (sp (K w.params)))
    (hsp : ∀ (K : PySem.W.Frag) (H : Hp) (a : Addr) (ns : List Int), ns.length ≤ n → (∀ Pt ∈ ts, H Pt = some (.tbl #[])) → SqL K H a (ns.map V.int) → sp K [.ref a] H (fun v _ => v = .bl true) fun _ _ _ => False) :
    PySem.W.WalkO q loose XP YP l.row.toRowW d [] (fun f vs => PySem.call f vs) := by
  refine Att.attach_call hn hdf fun w s₀ s₁ mg mb fa o pm cd doc a vs ns G Y ho hd hcd hmg hobj hints hlen hg => ?_
  have KX := hY w _ Y
  obtain ⟨fd, hb, hF⟩ := F w mg fa _ KX G.T.g hmg
  refine law_callT KX G.T.g G.T.b G.T.builtins G.T.nolimit hg hobj hints (Nat.le_trans hlen hn2) hr (fun Pt hP => ⟨hY2 w _ Y Pt hP, ?_⟩) (hKn w) G.T.bmain hF hb (fun H hT hS => hsp (K w.params) H a ns hlen hT hS) fun H e s' z => z
  obtain ⟨c, hc⟩ := hC w Pt hP
  exact ((PySem.W.codeHd_of_K KX hc).tab (hY2 w _ Y Pt hP)).isCodeTable
def cxLam (P : Program) (w : World) (K : PySem.W.Frag) (mg : Str → Option Value) (base : Heap) (N : List Str) (qual : Str) (scope : Scope) (cl : List (Str × Addr)) (f c' : Addr) (A : Around) (outer : List Env) (s : Shared) (H : Hp) : Cx where
  prog := P
  w := w
  K := K
  mg := mg
  base := base
  A := A.deeper (PySem.W.envX qual scope s.heap.objs.size f (.ref c') cl)
  N := N
  s₀ := s
  H₀ := H
  env := PySem.W.envX qual scope s.heap.objs.size f (.ref c') cl
  outer := outer
  stack := PySem.W.envX qual scope s.heap.objs.size f (.ref c') cl :: outer
  ex := []
  calm := true
  fn := fun _ => false
  pn := []
  xe := fun _ _ => False
structure Lam (x : Str) (fr : List Str) (params : Arguments) (scope : Scope) : Prop where
  kind : scope.kind = .function
  co : scope.isCoroutine = false
  gen : scope.isGenerator = false
  cell : ∀ y ∈ scope.names, y.2 ≠ .cell
  par : scope.names.lookup x = some .local
  bind : ∀ (nm qual : Str) (body : Expr) (cl : List (Str × Addr)) (pm cdv ct u : Value), bindArgs (PySem.W.kla_fn nm qual params body scope cl pm cdv ct) ⟨[u], []⟩ = pure [(x, u)]
  free : ∀ y ∈ fr, scope.names.lookup y = some .free
def ClosAt (cl : List (Str × Addr)) (H : Hp) (h : Heap) (fr : List Str) (fv : List V) : Prop :=
  fr.length = fv.length ∧ ∀ (i : Nat) (y : Str) (v : V), fr[i]? = some y → fv[i]? = some v → ∃ u c, RelV v u ∧ cl.lookup y = some c ∧ h.IsCell c (some u)
theorem lam_run {P : Program} {w : World} {K : PySem.W.Frag} {mg : Str → Option Value} {base : Heap} {k : Nat} {A : Around} {outer : List Env} {s : Shared} {H : Hp} {nm qual : Str} {params : Arguments} {body : Expr} {scope : Scope} {cl : List (Str × Addr)} {pm ctv u : Value} {c' f : Addr} {x : Str} {fr : List Str} {fv : List V} {v : V} {te : TE} {Q : VK}
    (L : Lam x fr params scope) (hr : Room (k + 1) A) (e0 : Env0 P w K mg base A outer s H)
    (hf : s.heap.get? f = some (PySem.W.kla_obj nm qual params body scope cl pm c' ctv)) (hcd : s.heap.CodeRec (.ref c') qual)
    (hinj : ∀ y z c, cl.lookup y = some c → cl.lookup z = some c → y = z) (hhas : ∀ y ∈ scope.names, y.2 = .free → (cl.lookup y.1).isSome = true) (hcells : ∀ y c, cl.lookup y = some c → (∃ v, s.heap.IsCell c v) ∧ H c = none)
    (hC : ClosAt cl H s.heap fr fv) (rv : RelV v u)
    (hbody : PE (cxLam P w K mg base (x :: fr) qual scope cl f c' A outer s H) body te) (hq : te (some v :: fv.map some) H Q) :
    codeAny (model P w) A (.call (.ref f) ⟨[u], []⟩) (CR CX0 outer P w H s Q E0) s := by
  have lim : s.heap.NoLimit := e0.mod.nolimit.keeps fun b o e => (e0.bs b o e).1
  refine PySem.W.kla_callFunE hr.depth hf rfl L.co L.gen rfl hcd ?_
  rw [L.bind]
  refine wpAny_pure (wpAny_newFunctionEnv L.cell (fun y hy => ?_) (fun h₁ hns hsb => ⟨lim.fresh _ hsb, ?_⟩) L.kind)
  · obtain rfl : y = (x, u) := List.mem_singleton.mp hy
    exact L.par
  show codeAny _ _ (.expr body (PySem.W.envX qual scope s.heap.objs.size f (.ref c') cl)) _ _
  have hk₁ : ∀ b o, s.heap.get? b = some o → h₁.get? b = some o := fun b o e => hsb.extBut b o (Nat.ne_of_lt (Heap.lt_size e)) (Heap.get?_push_of_some _ e)
  have cellK : ∀ c v, s.heap.IsCell c v → h₁.IsCell c v := fun c v ⟨o, ho, hd⟩ => ⟨o, hk₁ _ _ ho, hd⟩
  have noA : ∀ b : Addr, b ∉ (cxLam P w K mg base (x :: fr) qual scope cl f c' A outer s H).ex := fun b z => absurd (show b ∈ ([] : List Addr) from z) (by simp)
  have I : Inv (cxLam P w K mg base (x :: fr) qual scope cl f c' A outer s H) [] (some v :: fv.map some) H { s with heap := h₁, toks := s.toks + [(x, u)].length } := by
    refine ⟨⟨e0.mod, L.kind, rfl, rfl, Nat.le_refl _, hinj, fun y hy => ?_, fun y c h _ => (Bool.false_ne_true h).elim, fun _ => hr.hd, Around.frames_deeper e0.frames, .inr ⟨rfl, rfl⟩, fun b z => absurd z (noA b), e0.bs, e0.bsz, fun b _ _ => noA b, fun b z => absurd z (noA b), e0.funs, e0.frf⟩,
      rfl, e0.bare, Un.kept hk₁, ⟨_, hns, fun i y z h1 h2 h3 => ?_⟩, fun y c h => ?_, e0.hok.fresh (Nat.le_refl _), fun y c h => (hcells y c h).2, fun p hp => absurd (show p ∈ ([] : List (Addr × Obj)) from hp) (by simp), e0.hok.kept hk₁, ?_⟩
    · have hy' : scope.names.lookup y = some .cell ∨ scope.names.lookup y = some .free := hy
      rcases hy' with q | q
      · exact absurd rfl (L.cell _ (PySem.mem_of_lookup q))
      · exact Option.isSome_iff_exists.mp (hhas (y, .free) (PySem.mem_of_lookup q) rfl)
    · cases i with
      | zero =>
        have e1 : x = y := by simpa using (show (x :: fr)[0]? = some y from h1)
        have e2 : v = z := by simpa using h2
        subst e1
        subst e2
        refine ⟨u, rv, .inl ⟨L.par, ?_⟩⟩
        simp
      | succ j =>
        have e1 : fr[j]? = some y := by simpa using (show (x :: fr)[j + 1]? = some y from h1)
        have e2 : fv[j]? = some z := by
          have := h2
          simp only [List.getElem?_cons_succ, List.getElem?_map] at this
          cases q : fv[j]? with
          | none => rw [q] at this; cases this
          | some a => rw [q] at this; cases this; rfl
        obtain ⟨u', c, r, l, ce⟩ := hC.2 j y z e1 e2
        exact ⟨u', r, .inr ⟨.inr (L.free y (List.mem_of_getElem? e1)), c, l, cellK _ _ ce⟩⟩
    · obtain ⟨⟨z, q⟩, _⟩ := hcells y c h
      exact ⟨z, cellK _ _ q⟩
    · show (some v :: fv.map some).length = (x :: fr).length
      simp [hC.1]
  refine PySem.W.kla_codeExpr (wpAny_mono (hbody [] _ _ H Q I hq) (fun z s' hs => ?_) fun _ _ z => z.elim)
  obtain ⟨v', H', J, r', q'⟩ := hs
  exact ⟨v', H', J.os, J.bare, J.base, J.hok, r', q'⟩
def TabE (qual : Str) (c' : Addr) : HO := .ext fun h => h.CodeRec (.ref c') qual
def TabI (P : Addr) (pos : Pos) (qual : Str) (H : Hp) : Prop :=
  H P = some (.tbl #[]) ∨ ∃ c', H P = some (.tbl #[rawInt pos.line, rawInt pos.col, .ref c']) ∧ H c' = some (TabE qual c')
structure Gr (P : Addr) (pos : Pos) (qual : Str) (H H' : Hp) : Prop where
  keep : ∀ b o, H b = some o → b ≠ P → H' b = some o
  tab : TabI P pos qual H'
theorem Gr.refl {P : Addr} {pos : Pos} {qual : Str} {H : Hp} (h : TabI P pos qual H) : Gr P pos qual H H := ⟨fun _ _ e _ => e, h⟩
theorem Gr.trans {P : Addr} {pos : Pos} {qual : Str} {H H1 H2 : Hp} (a : Gr P pos qual H H1) (b : Gr P pos qual H1 H2) : Gr P pos qual H H2 := ⟨fun c o e n => b.keep c o (a.keep c o e n) n, b.tab⟩
theorem TabI.same {P : Addr} {pos : Pos} {qual : Str} {H H' : Hp} (h : TabI P pos qual H) (s : Same H H') : TabI P pos qual H' := by
  rcases h with h | ⟨c', h1, h2⟩
  · exact .inl (s _ _ h)
  · exact .inr ⟨c', s _ _ h1, s _ _ h2⟩
theorem Gr.same {P : Addr} {pos : Pos} {qual : Str} {H H1 H2 : Hp} (a : Gr P pos qual H H1) (b : Same H1 H2) : Gr P pos qual H H2 := ⟨fun c o e n => b c o (a.keep c o e n), a.tab.same b⟩
theorem codeRec_ext {h : Heap} {c' : Addr} {qual : Str} (x : h.CodeRec (.ref c') qual) : ∃ o, h.get? c' = some o := by
  obtain ⟨c, oc, vs, t, e, ho, _⟩ := x
  cases e
  exact ⟨oc, ho⟩
theorem codeRec_at {h1 h2 : Heap} {c' : Addr} {qual : Str} (x : h1.CodeRec (.ref c') qual) (k : ∀ o, h1.get? c' = some o → h2.get? c' = some o) : h2.CodeRec (.ref c') qual := by
  obtain ⟨c, oc, vs, t, e, ho, r⟩ := x
  cases e
  exact ⟨c', oc, vs, t, rfl, k _ ho, r⟩
theorem lam_make {X : Cx} {pins : List (Addr × Obj)} {σ : St} {H : Hp} {s : Shared} {qual0 : Str} {params : Arguments} {body : Expr} {scope : Scope} {cl : List (Str × Addr)} {c P : Addr} {pos : Pos} {E : Value → Shared → Prop} {Q : Value → Shared → Prop}
    (I : Inv X pins σ H s) (hbm : BM X.mg X.base) (hcl : closureFor scope X.env = pure cl) (hcode : X.env.code = .ref c) (hC : PySem.W.codeHdIn X.K c P = true) (hq0 : X.env.qual ++ "<lambda>" = qual0) (hdef : defaultsOf params X.env = ([], []))
    (htab : TabI P pos qual0 H)
    (k : ∀ f c' pm ctv s' H', Inv X pins σ H' s' → Gr P pos qual0 H H' → s'.heap.get? f = some (PySem.W.kla_obj "<lambda>" qual0 params body scope cl pm c' ctv) → s.heap.objs.size ≤ f → H' f = none → H' c' = some (TabE qual0 c') → Q (.ref f) s') :
    wpAny (model X.prog X.w) X.A (eval (.Lambda params body scope pos) X.env) Q E s := by
  refine PySem.W.kla_eval hdef ?_
  rw [hq0]
  have hgs : s.heap.Ns mainGlobals X.mg := I.mod.glob.keeps I.bk
  have Ch : PySem.W.CodeHd s.heap c P := PySem.W.codeHd_of_K I.kIn hC
  obtain ⟨bm, ob, b1, b2, b3, b4, b5, b6⟩ := hbm
  have b3' := I.bk _ _ b3
  have bmH : H bm = none := (I.bs _ _ b3).2
  have hbG : bm ≠ mainGlobals := fun q => by
    obtain ⟨o, es, ep, e, hd, _⟩ := hgs
    rw [q, e] at b3'; cases b3'; rw [hd] at b6; cases b6
  rcases htab with h0 | ⟨c', h1, h2⟩
  · have hP : s.heap.get? P = some (PySem.W.tabObj #[]) := I.hok P _ h0
    have hgP : mainGlobals ≠ P := fun q => by
      obtain ⟨o, es, ep, e, hd, _⟩ := hgs
      rw [q, hP] at e; cases e; cases hd
    have hbP : bm ≠ P := fun q => by rw [q, h0] at bmH; cases bmH
    refine PySem.W.kla_makeFunction (mg := X.mg) hcl I.ok.glob hgs hcode Ch hP trivial rfl hgP ⟨bm, ob, b1, b2, hbG, hbP, b3', b4, b5, b6⟩ fun c' ctv h' tk hx hge hlt hrec htb => ?_
    have hrec' : (h'.push (PySem.W.kla_obj "<lambda>" qual0 params body scope cl ((X.mg "__name__").getD .none) c' ctv)).CodeRec (.ref c') qual0 := codeRec_at hrec fun o e => Heap.get?_push_of_some _ e
    have hPc : P ≠ c' := fun z => Nat.lt_irrefl _ (Nat.lt_of_lt_of_le (Heap.lt_size hP) (by rw [z]; exact hge))
    have kp : ∀ b o, b ≠ P → s.heap.get? b = some o → (h'.push (PySem.W.kla_obj "<lambda>" qual0 params body scope cl ((X.mg "__name__").getD .none) c' ctv)).get? b = some o := fun b o hb e => Heap.get?_push_of_some _ (hx b o hb e)
    have hc0 : H c' = none := I.hok.fresh hge
    have nP : ∀ b, H b = none → b ≠ P := fun b n z => by rw [z, h0] at n; cases n
    have hN : ∀ b u, H b = some u → b ≠ c' := fun b u e => ne_of_none e hc0
    have htb' : (h'.push (PySem.W.kla_obj "<lambda>" qual0 params body scope cl ((X.mg "__name__").getD .none) c' ctv)).get? P = some (PySem.W.tabObj #[rawInt pos.line, rawInt pos.col, .ref c']) := by
      have := Heap.get?_push_of_some (PySem.W.kla_obj "<lambda>" qual0 params body scope cl ((X.mg "__name__").getD .none) c' ctv) htb
      simpa using this
    have hsz : s.heap.objs.size ≤ h'.objs.size := Nat.le_of_lt (Nat.lt_of_le_of_lt hge hlt)
    refine k _ c' _ ctv _ (upd (upd H P (.tbl #[rawInt pos.line, rawInt pos.col, .ref c'])) c' (TabE qual0 c')) (I.un (t' := tk) ?_ ?_) ⟨fun b o e n => ?_, .inr ⟨c', ?_, upd_same⟩⟩ (Heap.get?_push_size _ rfl) hsz ?_ upd_same
    · exact {
        keep := fun b o e n _ _ => kp b o (nP b n) e
        slot := fun b o e n _ _ => ⟨o.slots, kp b o (nP b n) e⟩
        free := fun b o e n _ => by rw [upd_ne (Nat.ne_of_lt (Nat.lt_of_lt_of_le (Heap.lt_size e) hge)), upd_ne (nP b n)]; exact n
        there := fun b o e _ => by
          by_cases hb : b = P
          · exact ⟨_, hb ▸ htb'⟩
          · exact ⟨o, kp b o hb e⟩
        tups := fun b xs e => by rw [upd_ne (hN b _ e), upd_ne (fun z => by rw [z, h0] at e; cases e)]; exact e
        frzs := fun b o u e => by rw [upd_ne (hN b _ e), upd_ne (fun z => by rw [z, h0] at e; cases e)]; exact e
        tbls := fun b ps e => by
          by_cases hb : b = P
          · subst hb
            rw [h0] at e
            cases e
            exact ⟨#[rawInt pos.line, rawInt pos.col, .ref c'], by rw [upd_ne hPc, upd_same]; simp⟩
          · exact ⟨#[], by rw [upd_ne (hN b _ e), upd_ne hb, e]; simp⟩ }
    · intro b u e
      by_cases hb : b = c'
      · subst hb
        rw [upd_same] at e
        cases e
        exact ⟨hrec', codeRec_ext hrec', fun h1 h2 x q => codeRec_at x fun o e => q o e⟩
      · rw [upd_ne hb] at e
        by_cases hb2 : b = P
        · subst hb2
          rw [upd_same] at e
          cases e
          exact htb'
        · rw [upd_ne hb2] at e
          refine (I.hok b u e).stay (fun d v hd q => kp d v ?_ q) (fun d q => by rw [upd_ne (hN d _ q), upd_ne (fun z => by rw [z, h0] at q; cases q)]; exact q) fun d xs q => by rw [upd_ne (hN d _ q), upd_ne (fun z => by rw [z, h0] at q; cases q)]; exact q
          rcases hd with z | z
          · rw [z]; exact hb2
          · intro z2
            rw [z2, h0] at z
            cases z
    · rw [upd_ne (hN b o e), upd_ne n]; exact e
    · rw [upd_ne hPc, upd_same]
    · rw [upd_ne (Nat.ne_of_gt hlt), upd_ne (Nat.ne_of_gt (Nat.lt_of_lt_of_le (Heap.lt_size hP) hsz))]
      exact I.hok.fresh hsz
  · have hP : s.heap.get? P = some (PySem.W.tabObj #[rawInt pos.line, rawInt pos.col, .ref c']) := I.hok P _ h1
    have hbP : bm ≠ P := fun q => by rw [q, h1] at bmH; cases bmH
    refine PySem.W.kla_makeFunctionHit (mg := X.mg) hcl I.ok.glob hgs hcode Ch hP trivial (cv := .ref c') (by simp [codeAmong, rawInt]) ⟨bm, ob, b1, b2, hbG, hbP, b3', b4, b5, b6⟩ fun ctv h' tk hk hsz => ?_
    exact k _ c' _ ctv _ H (I.kept (t' := tk) fun b o e => Heap.get?_push_of_some _ (hk b o e)) (.refl (.inr ⟨c', h1, h2⟩)) (Heap.get?_push_size _ rfl) hsz (I.hok.fresh hsz) h2
end L2
set_option Elab.async false
set_option linter.all false
set_option maxRecDepth 100000
set_option maxHeartbeats 4000000
namespace L2
open PySem PySem.Spec PyProof.Rows
theorem FpOk.pin1 {X : Cx} {pins pins' : List (Addr × Obj)} {σ : St} {H : Hp} {s : Shared} {b : Addr} {o : Obj} (f : FpOk X pins H b) (_ : Inv X pins' σ H s) (e : s.heap.get? b = some o) (d : ∀ v, o.data ≠ .cell v) :
    s.heap.get? (b, o).1 = some (b, o).2 ∧ H (b, o).1 = none ∧ (b, o).1 ≠ X.env.locals ∧ (b, o).1 ∉ X.fs ∧ ∀ v, (b, o).2.data ≠ .cell v := ⟨e, f.1, f.2.1, f.2.2.1, d⟩
section
variable {X : Cx} {pins : List (Addr × Obj)} {σ : St} {H : Hp} {s : Shared} {A : Around} {E : Value → Shared → Prop} {a kS : Addr} {b : Bool} {vs : List Value} {kz : List Int} {keys : Array Value} {e e1 : Nat} {P : PySem.Fin → Shared → Prop}
theorem Inv.own1 {c : Addr} {h' : Heap} (I : Inv X pins σ H s) (f : FpOk X pins H c) (hs : Heap.SameBut c s.heap h') : Inv X pins σ H { s with heap := h' } :=
  I.turned (t' := s.toks) (it := c) (fun d o hd q => (hs.2 d hd).trans q) f.1 f.2.1 f.2.2.2.1 f.2.2.2.2.1 f.2.2.2.2.2
theorem Inv.track {D : Addr} {o : HO} (I : Inv X pins σ H s) (f : FpOk X pins H D) (hD : X.s₀.heap.objs.size ≤ D) (new : ObjOk X.prog X.w (upd H D o) s.heap D o) : Inv X pins σ (upd H D o) s := by
  have ne : ∀ c u, H c = some u → c ≠ D := fun c u q => ne_of_none q f.1
  refine ⟨I.ok, I.os, I.bare, ⟨I.base.keep, I.base.slot, fun c ob q n hx => ?_, I.base.there, fun c xs q => ?_, fun c ob u q => ?_, fun c ps q => ?_⟩, I.loc, I.cell, ?_, fun x c q => ?_, fun p hp => ?_, fun c u q => ?_, I.len⟩
  · rw [upd_ne (Nat.ne_of_lt (Nat.lt_of_lt_of_le (Heap.lt_size q) hD))]
    exact I.base.free c ob q n hx
  · have z := I.base.tups c xs q
    rw [upd_ne (ne c _ z)]; exact z
  · have z := I.base.frzs c ob u q
    rw [upd_ne (ne c _ z)]; exact z
  · obtain ⟨more, z⟩ := I.base.tbls c ps q
    exact ⟨more, by rw [upd_ne (ne c _ z)]; exact z⟩
  · rw [upd_ne (Ne.symm f.2.1)]; exact I.free
  · rw [upd_ne (f.2.2.2.2.1 x c q)]; exact I.freeC x c q
  · obtain ⟨p1, p2, p3⟩ := I.pin p hp
    exact ⟨p1, by rw [upd_ne (f.2.2.2.2.2 p hp)]; exact p2, p3⟩
  · by_cases hc : c = D
    · subst hc; rw [upd_same] at q; cases q; exact new
    · rw [upd_ne hc] at q
      exact (I.hok c u q).stay (fun _ _ _ r => r) (fun d r => by rw [upd_ne (ne d _ r)]; exact r) fun d xs r => by rw [upd_ne (ne d _ r)]; exact r
theorem skey_tail {st : SortSt} (I : Inv X pins σ H s) (fk : FpOk X pins H kS) (fa : FpOk X pins H a) (hka : kS ≠ a) (nk : s.heap.get? kS = some (seqObj "list" keys e)) (na : s.heap.get? a = some (seqObj "list" #[] e1))
    (hk : IntsAre keys.toList kz) (hlen : kz.length = vs.length) (h64 : vs.length < 64) (hp : (arrOf st).Perm (keys.zip vs.toArray)) (hs : SortedTo (arrOf st) (arrOf st).size) (hfl : failedOf st = none)
    (h : ∀ s' out c, Inv X pins σ H s' → s'.heap.get? a = some (seqObj "list" out c) → KskOut b kz vs out.toList → P (.done (.ret .none)) s') :
    wpAny (model X.prog X.w) A (ksk_tail a b e1 (.ref kS) st) P E s := by
  have hsz : keys.size = vs.length := by
    have h1 := hk.length
    rw [Array.length_toList] at h1
    omega
  have hsz2 : (arrOf st).size = vs.length := by rw [hp.size_eq, Array.size_zip, hsz, List.size_toArray, Nat.min_self]
  have hout : (if b then ((arrOf st).map (·.2)).reverse else (arrOf st).map (·.2)).size = vs.length := by
    cases b with
    | false => simp only [Bool.false_eq_true, if_false, Array.size_map]; exact hsz2
    | true => simp only [if_true, Array.size_reverse, Array.size_map]; exact hsz2
  have s1 := Heap.SameBut.update s.heap kS (Obj.mapSeq fun _ => (#[] : Array Value))
  have na1 : (s.heap.update kS (Obj.mapSeq fun _ => (#[] : Array Value))).get? a = some (seqObj "list" #[] e1) := (s1.2 a hka.symm).trans na
  have s2 := Heap.SameBut.update (s.heap.update kS (Obj.mapSeq fun _ => (#[] : Array Value))) a (Obj.mapSeq fun _ => if b then ((arrOf st).map (·.2)).reverse else (arrOf st).map (·.2))
  obtain ⟨c2, hc2⟩ : ∃ c2, ((s.heap.update kS (Obj.mapSeq fun _ => (#[] : Array Value))).update a (Obj.mapSeq fun _ => if b then ((arrOf st).map (·.2)).reverse else (arrOf st).map (·.2))).get? a = some (seqObj "list" (if b then ((arrOf st).map (·.2)).reverse else (arrOf st).map (·.2)) c2) :=
    ⟨_, get?_update_seq na1 fun _ => if b then ((arrOf st).map (·.2)).reverse else (arrOf st).map (·.2)⟩
  have I1 := I.own1 fk s1
  have I2 := I1.own1 fa s2
  unfold ksk_tail
  try dsimp only
  refine wpAny_bind (listUpdate_at nk rfl ?_ (by rw [hsz, sizeLine_eq]; omega) (Nat.zero_le _))
  refine wpAny_bind (wpAny_letGo ?_)
  refine wpAny_bind (seqEpoch_at na1 rfl ?_)
  refine wpAny_bind (listUpdate_at na1 rfl ?_ (Nat.zero_le _) (Nat.le_trans (Nat.le_of_eq hout) (by rw [sizeLine_eq]; omega)))
  rw [hfl]
  simp only [bne_self_eq_false, Bool.false_eq_true, if_false]
  exact wpAny_pure (h _ _ c2 I2 hc2 (ksk_out hk hp hs))
theorem skey_end (I : Inv X pins σ H s) (fk : FpOk X pins H kS) (fa : FpOk X pins H a) (hka : kS ≠ a) (nk : s.heap.get? kS = some (seqObj "list" keys e)) (na : s.heap.get? a = some (seqObj "list" #[] e1))
    (hk : IntsAre keys.toList kz) (hlen : kz.length = vs.length) (h64 : vs.length < 64)
    (h : ∀ s' out c, Inv X pins σ H s' → s'.heap.get? a = some (seqObj "list" out c) → KskOut b kz vs out.toList → P (.done (.ret .none)) s') :
    wpAny (model X.prog X.w) A (ksk_end a b vs.toArray e1 (.ref kS) keys) P E s := by
  have hsz : keys.size = vs.length := by
    have h1 := hk.length
    rw [Array.length_toList] at h1
    omega
  have hzs : (keys.zip vs.toArray).size = vs.length := by rw [Array.size_zip, hsz, List.size_toArray, Nat.min_self]
  have step : ∀ t : Sem PySem.Fin, wpAny (model X.prog X.w) A t P E s → wpAny (model X.prog X.w) A (if b = true then (do let _ ← rule "list.sort.reverse"; t) else t) P E s := by
    intro t ht
    split
    · exact wpAny_bind (wpAny_rule ht)
    · exact ht
  have hstart : (if b = true then (keys.zip vs.toArray).reverse else keys.zip vs.toArray).Perm (keys.zip vs.toArray) := by
    cases b with
    | false => exact Array.Perm.refl _
    | true => exact Array.perm_iff_toList_perm.mpr (by rw [if_pos rfl, Array.toList_reverse]; exact List.reverse_perm _)
  unfold ksk_end
  try dsimp only
  refine step _ ?_
  by_cases h2 : vs.toArray.size < 2
  · rw [if_pos h2, if_pos h2]
    refine wpAny_bind (wpAny_pure ?_)
    rw [StateT.run_pure]
    refine wpAny_bind (wpAny_pure ?_)
    try dsimp only
    refine skey_tail (st := SortSt.mk' general' (if b = true then (keys.zip vs.toArray).reverse else keys.zip vs.toArray) #[] 7 none) I fk fa hka nk na hk hlen h64 hstart ?_ rfl h
    intro i j hij hj
    have hj2 : j < (if b = true then (keys.zip vs.toArray).reverse else keys.zip vs.toArray).size := hj
    rw [hstart.size_eq, hzs] at hj2
    rw [List.size_toArray] at h2
    have : i = j := by omega
    subst this
    exact Int.le_refl _
  · rw [if_neg h2, if_neg h2]
    rw [List.size_toArray] at h2
    rw [ksk_kind hk (by rw [hsz]; omega)]
    refine wpAny_bind (wpAny_pure ?_)
    refine wpAny_bind (wpAny_mono (wpS_sortRuns (a₀ := keys.zip vs.toArray) (st := SortSt.mk' oneType' (if b = true then (keys.zip vs.toArray).reverse else keys.zip vs.toArray) #[] 7 none)
      (Q := fun _ st' => (arrOf st').Perm (keys.zip vs.toArray) ∧ failedOf st' = none ∧ SortedTo (arrOf st') (keys.zip vs.toArray).size)
      (ksk_intKeys hk) ⟨hstart, rfl, rfl, rfl⟩ (by rw [hzs]; omega) (by rw [hzs]; exact h64) fun st' a1 a2 a3 => ⟨a1, a2, a3⟩) ?_ fun _ _ e => e)
    rintro ⟨⟨⟩, st'⟩ s' ⟨rfl, hp, hf, hs⟩
    try dsimp only
    exact skey_tail I fk fa hka nk na hk hlen h64 hp (by rw [hp.size_eq]; exact hs) hf h
def KeyTurn (X : Cx) (pins : List (Addr × Obj)) (σ : St) (H : Hp) (A : Around) (f v : Value) (k : Int) : Prop :=
  ∀ s' pl, Inv X (pins ++ pl) σ H s' → wpAny (model X.prog X.w) A (call f [v]) (fun u s'' => RelV (.int k) u ∧ Inv X (pins ++ pl) σ H s'') (fun _ _ => False) s'
theorem skey_rest {f : Value} (I : Inv X pins σ H s) (fk : FpOk X pins H kS) (fa : FpOk X pins H a) (hka : kS ≠ a) (nk : s.heap.get? kS = some (seqObj "list" #[] 0)) (na : s.heap.get? a = some (seqObj "list" #[] e1))
    (hlen : kz.length = vs.length) (h64 : vs.length < 64)
    (turn : ∀ (i : Nat) (v : Value) (k : Int), vs[i]? = some v → kz[i]? = some k → KeyTurn X pins σ H A f v k)
    (h : ∀ s' out c, Inv X pins σ H s' → s'.heap.get? a = some (seqObj "list" out c) → KskOut b kz vs out.toList → P (.done (.ret .none)) s') :
    wpAny (model X.prog X.w) A (ksk_rest a f b vs.toArray e1 (.ref kS)) P E s := by
  unfold ksk_rest
  refine wpAny_bind (wpAny_rule ?_)
  first
    | rw [List.forIn_toArray]
    | (rw [← Array.forIn_toList]; simp only [List.toList_toArray])
    | rw [← Array.forIn_toList]
  refine wpAny_bind (ksk_fold (fun i s' => ∃ kA e, Inv X pins σ H s' ∧ s'.heap.get? kS = some (seqObj "list" kA e) ∧ s'.heap.get? a = some (seqObj "list" #[] e1) ∧ IntsAre kA.toList (kz.take i)) vs 0 s
    ⟨#[], 0, I, nk, na, by simpa using IntsAre.nil⟩ ?step ?done)
  case step =>
    rintro j x s' hx ⟨kA, e, I', nk', na', hk⟩
    simp only [Nat.zero_add] at hk ⊢
    have hj : j < vs.length := (List.getElem?_eq_some_iff.mp hx).1
    obtain ⟨k, hkj⟩ : ∃ k, kz[j]? = some k := ⟨_, List.getElem?_eq_getElem (by omega)⟩
    have hz : kA.size ≤ vs.length := by
      have h1 := hk.length
      rw [Array.length_toList, List.length_take] at h1
      omega
    have Ip : Inv X (pins ++ [(kS, seqObj "list" kA e), (a, seqObj "list" #[] e1)]) σ H s' := I'.pins_of fun p hp => by
      rcases List.mem_append.mp hp with z | z
      · exact I'.pin p (List.mem_append_right _ z)
      · rcases List.mem_cons.mp z with z | z
        · rw [z]; exact fk.pin1 I' nk' fun v z => nomatch z
        · rw [List.mem_singleton.mp z]; exact fa.pin1 I' na' fun v z => nomatch z
    refine wpAny_bind (wpAny_attempt (wpAny_mono (turn j x k hx hkj s' _ Ip) (fun v s'' he => ?_) fun _ _ hF => hF.elim))
    obtain ⟨⟨t2, rfl⟩, I2⟩ := he
    try dsimp only
    have nk2 : s''.heap.get? kS = some (seqObj "list" kA e) := (I2.pin (kS, seqObj "list" kA e) (List.mem_append_right _ (List.mem_append_right _ (.head _)))).1
    have na2 : s''.heap.get? a = some (seqObj "list" #[] e1) := (I2.pin (a, seqObj "list" #[] e1) (List.mem_append_right _ (List.mem_append_right _ (.tail _ (.head _))))).1
    have s1 := Heap.SameBut.update s''.heap kS (Obj.mapSeq (·.push (.int k t2)))
    obtain ⟨c2, hc2⟩ : ∃ c2, (s''.heap.update kS (Obj.mapSeq (·.push (.int k t2)))).get? kS = some (seqObj "list" (kA.push (.int k t2)) c2) := ⟨_, get?_update_seq nk2 (·.push (.int k t2))⟩
    have ek : kz.take (j + 1) = kz.take j ++ [k] := by rw [List.take_add_one, hkj]; simp
    have ea : (kA.push (Value.int k t2)).toList = kA.toList ++ [Value.int k t2] := by simp
    refine wpAny_bind (listUpdate_at nk2 rfl ?_ (by rw [sizeLine_eq]; omega) (Nat.le_trans (Nat.le_of_eq (Array.size_push ..)) (by rw [sizeLine_eq]; omega)))
    exact wpAny_pure ⟨rfl, kA.push (.int k t2), c2, I2.unpinned.own1 fk s1, hc2, (s1.2 a hka.symm).trans na2, by rw [ea, ek]; exact ksk_snoc hk⟩
  case done =>
    rintro s' ⟨kA, e, I', nk', na', hk⟩
    have hk' : IntsAre kA.toList kz := by
      have e3 : kz.take (0 + vs.length) = kz := List.take_of_length_le (by omega)
      rw [e3] at hk
      exact hk
    try dsimp only
    refine wpAny_bind (listItems_at nk' rfl ?_)
    exact skey_end I' fk fa hka nk' na' hk' hlen h64 h
theorem skey_sort {f : Value} {n : Nat} (I : Inv X pins σ H s) (fa : FpOk X pins H a) (ho : s.heap.get? a = some (seqObj "list" vs.toArray n))
    (hlen : kz.length = vs.length) (h64 : vs.length < 64)
    (turn : ∀ (i : Nat) (v : Value) (k : Int), vs[i]? = some v → kz[i]? = some k → KeyTurn X pins σ H A f v k)
    (h : ∀ s' out c, Inv X pins σ H s' → s'.heap.get? a = some (seqObj "list" out c) → KskOut b kz vs out.toList → P (.done (.ret .none)) s') :
    wpAny (model X.prog X.w) A (ksk_tree a f b) P E s := by
  have ha : a < s.heap.objs.size := Heap.lt_size ho
  have s1 := Heap.SameBut.update s.heap a (Obj.mapSeq fun _ => (#[] : Array Value))
  obtain ⟨e1, ho1⟩ : ∃ e1, (s.heap.update a (Obj.mapSeq fun _ => (#[] : Array Value))).get? a = some (seqObj "list" #[] e1) := ⟨_, get?_update_seq ho fun _ => #[]⟩
  have I1 := I.own1 fa s1
  have hkS : ((s.heap.update a (Obj.mapSeq fun _ => (#[] : Array Value))).push (seqObj "tuple" vs.toArray 0)).objs.size = s.heap.objs.size + 1 := by rw [size_push', Heap.size_update]
  have I3 : Inv X pins σ H { s with heap := ((s.heap.update a (Obj.mapSeq fun _ => (#[] : Array Value))).push (seqObj "tuple" vs.toArray 0)).push (seqObj "list" #[] 0) } :=
    I1.kept (t' := s.toks) fun c o q => Heap.get?_push_of_some _ (Heap.get?_push_of_some _ q)
  have fk : FpOk X pins H ((s.heap.update a (Obj.mapSeq fun _ => (#[] : Array Value))).push (seqObj "tuple" vs.toArray 0)).objs.size := by
    rw [hkS]
    exact I.fpOk (Nat.le_succ _) (I.hok.fresh (Nat.le_succ _))
  unfold ksk_tree
  refine wpAny_bind (listItems_at ho rfl ?_)
  refine wpAny_bind (listUpdate_at ho rfl ?_ (by rw [List.size_toArray, sizeLine_eq]; omega) (Nat.zero_le _))
  refine wpAny_bind (seqEpoch_at ho1 rfl ?_)
  refine wpAny_bind (wpAny_newTuple ?_ (by show vs.length ≤ _; rw [sizeLine_eq]; omega))
  refine wpAny_bind (wpAny_newList ?_ (Nat.zero_le _))
  refine wpAny_holding ?_
  exact skey_rest (s := { s with heap := ((s.heap.update a (Obj.mapSeq fun _ => (#[] : Array Value))).push (seqObj "tuple" vs.toArray 0)).push (seqObj "list" #[] 0) }) (kS := ((s.heap.update a (Obj.mapSeq fun _ => (#[] : Array Value))).push (seqObj "tuple" vs.toArray 0)).objs.size)
    I3 fk fa (by rw [hkS]; exact Nat.ne_of_gt (Nat.lt_succ_of_lt ha)) (Heap.get?_push_size _ rfl) (Heap.get?_push_of_some _ (Heap.get?_push_of_some _ ho1)) hlen h64 turn h
end
section
variable {X : Cx} {pins : List (Addr × Obj)} {σ : St} {H : Hp} {s : Shared} {E : Value → Shared → Prop}
theorem sorted_key {l f : Addr} {ns : List Int} {g : Int → Int} {Q : Value → Shared → Prop} (I : Inv X pins σ H s) (hl : SqL X.K H l (ns.map V.int)) (h64 : ns.length < 64)
    (turn : ∀ (n : Int) (t : Tok), n ∈ ns → KeyTurn X pins σ H X.A.in1.in1 (.ref f) (.int n t) (g n))
    (done : ∀ (D : Addr) (ns' : List Int) (s' : Shared), H D = none → ns'.Perm ns → ns'.Pairwise (fun x y => g x ≤ g y) → Inv X pins σ (upd H D (.lst (ns'.map V.int))) s' → Q (.ref D) s') :
    wpAny (model X.prog X.w) X.A (call (.builtin "sorted") [.ref l] [(Str.ofString "key", .ref f)]) Q E s := by
  obtain ⟨vs, rvs, pl, _⟩ := I.list hl
  have hi : IntsAre vs ns := intsAre_of rvs
  have hlen := hi.length
  have hlz : (ns.map g).length = vs.length := by rw [List.length_map, hlen]
  refine call_function_entry_kw kind_sorted plain_sorted entry_sorted (ksk_s1 _ _) ?_
  unfold Builtin.«sorted»
  refine wpAny_bind (m := checkCount "sorted" 1 1 _) (wpAny_pure ?_)
  refine wpAny_bind (collect_list pl.isList ?_ (by rw [sizeLine_eq]; omega))
  refine wpAny_bind (wpAny_newList ?_ (by rw [sizeLine_eq]; omega))
  have hsz : ((s.heap.push (seqObj "list" #[] 0)).update s.heap.objs.size (Obj.mapSeq (· ++ vs.toArray))).objs.size = s.heap.objs.size + 1 := by
    rw [Heap.size_update, size_push']
  have hoL : (((s.heap.push (seqObj "list" #[] 0)).update s.heap.objs.size (Obj.mapSeq (· ++ vs.toArray))).push (seqObj "list" vs.toArray 0)).get? (s.heap.objs.size + 1) = some (seqObj "list" vs.toArray 0) := by
    rw [← hsz]; exact Heap.get?_push_size _ rfl
  have keep : ∀ b o, s.heap.get? b = some o → (((s.heap.push (seqObj "list" #[] 0)).update s.heap.objs.size (Obj.mapSeq (· ++ vs.toArray))).push (seqObj "list" vs.toArray 0)).get? b = some o := fun b o q => by
    have hlt : b < s.heap.objs.size := Heap.lt_size q
    rw [Heap.get?_push_ne _ _ _ (by rw [hsz]; exact Nat.ne_of_lt (Nat.lt_succ_of_lt hlt)), Heap.get?_update_ne _ _ _ _ (Nat.ne_of_lt hlt), Heap.get?_push_ne _ _ _ (Nat.ne_of_lt hlt)]
    exact q
  have I1 : Inv X pins σ H { s with heap := ((s.heap.push (seqObj "list" #[] 0)).update s.heap.objs.size (Obj.mapSeq (· ++ vs.toArray))).push (seqObj "list" vs.toArray 0) } := I.kept (t' := s.toks) keep
  have hD : H (s.heap.objs.size + 1) = none := I.hok.fresh (Nat.le_succ _)
  have fa : FpOk X pins H (s.heap.objs.size + 1) := I.fpOk (Nat.le_succ _) hD
  show wpAny _ _ _ _ _ { s with heap := ((s.heap.push (seqObj "list" #[] 0)).update s.heap.objs.size (Obj.mapSeq (· ++ vs.toArray))).push (seqObj "list" vs.toArray 0) }
  rw [hsz]
  refine wpAny_bind (wpAny_holding (wpAny_call_entry_kw slot_list_sort ⟨_, hoL, rfl⟩ entry_list_sort ?body (ksk_l1 _ _)))
  case body =>
    show wpAny (model X.prog X.w) X.A.in1.in1 (Builtin.«list.sort» ⟨[.ref (s.heap.objs.size + 1)], [(Str.ofString "key", .ref f)]⟩) _ _ _
    rw [ksk_t1]
    refine skey_sort (s := { s with heap := ((s.heap.push (seqObj "list" #[] 0)).update s.heap.objs.size (Obj.mapSeq (· ++ vs.toArray))).push (seqObj "list" vs.toArray 0) }) (kz := ns.map g) I1 fa hoL hlz (by omega) (fun i v k hv hk => ?_) fun s' out c I' ho' ko => ⟨_, rfl, ?_⟩
    · rw [List.getElem?_map] at hk
      cases q : ns[i]? with
      | none => rw [q] at hk; simp at hk
      | some n =>
        rw [q] at hk
        have hk' : some (g n) = some k := hk
        cases hk'
        obtain ⟨t, ht'⟩ := hi.get i n q
        rw [ht'] at hv
        cases hv
        exact turn n t (List.mem_of_getElem? q)
    · obtain ⟨ps, hp, ho, hs⟩ := ko
      have hrel : ∀ p, p ∈ (ns.map g).zip vs → p.1 = g (numOf p.2) ∧ p.2 ∈ vs := by
        rw [← hi.nums, List.map_map, List.zip_map_left]
        intro p hp
        obtain ⟨⟨u, v⟩, hq, rfl⟩ := List.mem_map.mp hp
        have h1 : u = v ∧ u ∈ vs := mem_zip_self hq
        refine ⟨?_, ?_⟩
        · show g (numOf u) = g (numOf v)
          rw [h1.1]
        · show v ∈ vs
          rw [← h1.1]
          exact h1.2
      have hI : IntsAre (ps.map Prod.snd) ((ps.map Prod.snd).map numOf) := intsAre_map _ fun v hv => by
        obtain ⟨p, hp', rfl⟩ := List.mem_map.mp hv
        exact hi.all _ (hrel p (hp.mem_iff.mp hp')).2
      have hP : ((ps.map Prod.snd).map numOf).Perm ns := by
        have h1 := (hp.map Prod.snd).map numOf
        rw [List.map_snd_zip (by rw [List.length_map]; omega), hi.nums] at h1
        exact h1
      have hO : ((ps.map Prod.snd).map numOf).Pairwise (fun x y => g x ≤ g y) := by
        rw [List.pairwise_map, List.pairwise_map]
        refine hs.imp_of_mem fun {p q} hp' hq' hr => ?_
        have hr' : p.1 ≤ q.1 := hr
        rw [(hrel p (hp.mem_iff.mp hp')).1, (hrel q (hp.mem_iff.mp hq')).1] at hr'
        exact hr'
      rw [← ho] at hI hP hO
      have hl2 : (out.toList.map numOf).length ≤ sizeLine := by
        rw [hP.length_eq, sizeLine_eq]; omega
      refine wpAny_pure ⟨_, rfl, done _ _ s' hD hP hO (I'.track fa (Nat.le_trans I.sz (Nat.le_succ _)) ?_)⟩
      refine ⟨by rw [List.length_map]; exact hl2, out.toList, c, vals_ints hI, ?_⟩
      rw [Array.toArray_toList]
      exact ho'
end
end L2
set_option Elab.async false
set_option linter.all false
set_option maxRecDepth 100000
set_option maxHeartbeats 4000000
namespace L2
open PySem PySem.Spec PyProof.Rows
theorem closAt_of {X : Cx} {scope : Scope} {cl : List (Str × Addr)} {fr : List Str} {bs : List (Option Nat)} {pins : List (Addr × Obj)} {σ : St} {H : Hp} {s : Shared} {fv : List V} (B : Blk X scope cl fr bs) (I : Inv X pins σ H s) (hfv : bst bs σ = fv.map some) : ClosAt cl H s.heap fr fv := by
  refine ⟨?_, fun i y v e1 e2 => ?_⟩
  · have h := congrArg List.length hfv
    unfold bst at h
    rw [List.length_map, List.length_map, B.bs.len] at h
    exact h
  · have e3 : (bst bs σ)[i]? = some (some v) := by rw [hfv, List.getElem?_map, e2]; rfl
    unfold bst at e3
    rw [List.getElem?_map] at e3
    cases q : bs[i]? with
    | none => rw [q] at e3; cases e3
    | some o =>
      rw [q] at e3
      cases o with
      | none => cases e3
      | some j =>
        obtain ⟨x, y1, y2, y3, y4⟩ := B.bs.get q
        rw [e1] at y1
        cases y1
        have e4 : σ[j]? = some (some v) := by
          have z : (σ[j]?).join = some v := Option.some.inj e3
          cases w : σ[j]? with
          | none => rw [w] at z; cases z
          | some o => rw [w] at z; rw [show o = some v from z]
        obtain ⟨mx, hmx, lx⟩ := I.loc
        obtain ⟨u, r, l⟩ := lx j y v y2 e4 (.inr (.inl y3))
        rcases l with ⟨l1, _⟩ | ⟨_, c, l2, l3⟩
        · have l1' : X.env.scope.names.lookup y = some .local := l1
          rw [y3] at l1'
          cases l1'
        · obtain ⟨c', h'⟩ := Option.isSome_iff_exists.mp (B.cl2 (y, .free) (PySem.mem_of_lookup y4) rfl)
          have h2 := B.c1 h'
          rw [l2] at h2
          cases h2
          exact ⟨u, c, r, h', l3⟩
def tSortLam (K : PySem.W.Frag) (P : Addr) (lpos : Pos) (qual : Str) (bs : List (Option Nat)) (ta te : TE) : TE := fun σ H Q => ta σ H fun x H1 => ∃ (l : Addr) (ns : List Int) (g : Int → Int) (fv : List V), x = .ref l ∧ SqL K H1 l (ns.map V.int) ∧ ns.length < 64 ∧ TabI P lpos qual H1 ∧ bst bs σ = fv.map some ∧
  ∀ H2, Gr P lpos qual H1 H2 → (∀ n ∈ ns, te (some (.int n) :: fv.map some) H2 fun v H3 => v = .int (g n) ∧ H3 = H2) ∧ ∀ D ns', H2 D = none → List.Perm ns' ns → ns'.Pairwise (fun x y => g x ≤ g y) → Q (.ref D) (upd H2 D (.lst (ns'.map V.int)))
theorem Gr.sqL {K : PySem.W.Frag} {P : Addr} {pos : Pos} {qual : Str} {H H' : Hp} {l : Addr} {xs : List V} (g : Gr P pos qual H H') (t : TabI P pos qual H) (h : SqL K H l xs) : SqL K H' l xs := by
  have np : ∀ o, H l = some o → (∀ ps, o ≠ .tbl ps) → l ≠ P := fun o e n z => by
    subst z
    rcases t with t | ⟨c', t, _⟩
    · rw [e] at t; exact n _ (Option.some.inj t)
    · rw [e] at t; exact n _ (Option.some.inj t)
  rcases h with (h | ⟨o, h⟩) | h
  · exact .inl (.inl (g.keep _ _ h (np _ h fun ps z => nomatch z)))
  · exact .inl (.inr ⟨o, g.keep _ _ h (np _ h fun ps z => nomatch z)⟩)
  · exact .inr h
def only1 (R : V → Hp → Prop) : List V → Hp → Prop
  | [x], H => R x H
  | _, _ => False
theorem only1_of {R : V → Hp → Prop} : ∀ {vs : List V} {H : Hp}, only1 R vs H → ∃ x, vs = [x] ∧ R x H
  | [x], _, h => ⟨x, rfl, h⟩
  | [], _, h => h.elim
  | _ :: _ :: _, _, h => h.elim
theorem pe_sortLam {X : Cx} {k : Nat} {scope : Scope} {cl : List (Str × Addr)} {fr : List Str} {bs : List (Option Nat)} {x : Str} {params : Arguments} {body arg : Expr} {c P : Addr} {qual : Str} {lpos kpos pos p : Pos} {ta te : TE}
    (B : Blk X scope cl fr bs) (L : Lam x fr params scope) (hbm : BM X.mg X.base) (hcode : X.env.code = .ref c) (hC : PySem.W.codeHdIn X.K c P = true) (hq0 : X.env.qual ++ "<lambda>" = qual) (hdef : defaultsOf params X.env = ([], []))
    (hr : Room (k + 3) X.A) (hg : Gl X "sorted") (hm : X.mg "sorted" = none) (ha : PE X arg ta)
    (hbody : ∀ (f c' : Addr) (A : Around) (s : Shared) (H : Hp), Room k (A.deeper (PySem.W.envX qual scope s.heap.objs.size f (.ref c') cl)) → PE (cxLam X.prog X.w X.K X.mg X.base (x :: fr) qual scope cl f c' A X.stack s H) body te)
    (hs : starEach [arg] X.env = [(false, eval arg X.env)] := by rfl) :
    PE X (.Call (.Name "sorted" p) [arg] [⟨some "key", .Lambda params body scope lpos, kpos⟩] pos) (tSortLam X.K P lpos qual bs ta te) := by
  intro pins s σ H Q I h
  refine wpAny_Call_Name_kw (ld_blt I hg hm boot_sorted ?_)
  refine callWith_kw (id := "sorted") (thn ((pa_cons ha pa_nil hs : PA X [arg] (tCons ta tNil)) pos pins s σ H (only1 fun x H1 => ∃ (l : Addr) (ns : List Int) (g : Int → Int) (fv : List V), x = .ref l ∧ SqL X.K H1 l (ns.map V.int) ∧ ns.length < 64 ∧ TabI P lpos qual H1 ∧ bst bs σ = fv.map some ∧
    ∀ H2, Gr P lpos qual H1 H2 → (∀ n ∈ ns, te (some (.int n) :: fv.map some) H2 fun v H3 => v = .int (g n) ∧ H3 = H2) ∧ ∀ D ns', H2 D = none → List.Perm ns' ns → ns'.Pairwise (fun x y => g x ≤ g y) → Q (.ref D) (upd H2 D (.lst (ns'.map V.int)))) I h) fun us s1 ⟨vs, H1, I1, r1, q1⟩ => ?_) (by rw [hs]; rfl) (by rw [hs]; rfl)
  obtain ⟨x1, rfl, q1⟩ := only1_of q1
  obtain ⟨u1, rfl, ru⟩ := vals1 r1
  obtain ⟨l, ns, g, fv, rfl, hl, h64, htab, hfv, q⟩ := q1
  cases ru
  show wpAny _ _ (evalAll [(do let v ← eval (.Lambda params body scope lpos) X.env; standAt pos; pure v)]) _ _ s1
  refine wpAny_evalAll_cons (wpAny_bind (lam_make I1 hbm B.clos hcode hC hq0 hdef htab fun f c' pm ctv s2 H2 I2 gr hf hfs hfn hc => wpAny_bind (wpAny_standAt (wpAny_pure (wpAny_evalAll_nil ?_)))))
  show wpAny _ _ (call (.builtin "sorted") [.ref l] [(Str.ofString "key", .ref f)]) _ _ s2
  obtain ⟨qk, qd⟩ := q H2 gr
  have ff : FpOk X pins H2 f := I1.fpOk hfs hfn
  have I2' : Inv X (pins ++ [(f, PySem.W.kla_obj "<lambda>" qual params body scope cl pm c' ctv)]) σ H2 s2 := I2.pins_of fun p hp => by
    rcases List.mem_append.mp hp with z | z
    · exact I2.pin p (List.mem_append_right _ z)
    · rw [List.mem_singleton.mp z]
      exact ff.pin1 I2 hf fun v z => nomatch z
  refine sorted_key (g := g) I2' (gr.sqL htab hl) h64 (fun n t hn s' pl I' => ?_) fun D ns' s' hD hP hO I' => ⟨.ref D, _, I'.unpinned, rfl, qd D ns' hD hP hO⟩
  have pf := I'.pin (f, PySem.W.kla_obj "<lambda>" qual params body scope cl pm c' ctv) (List.mem_append_right _ (List.mem_append_left _ (List.mem_append_right _ (.head _))))
  have hcd : s'.heap.CodeRec (.ref c') qual := (show ObjOk X.prog X.w H2 s'.heap c' (TabE qual c') from I'.hok c' _ hc).1
  have hr1 : Room (k + 1) X.A.in1.in1 := (hr.in1).in1
  refine wpAny_call (codeAny_mono (lam_run (v := .int n) L hr1 (I'.env0.in1).in1 pf.1 hcd (fun y z c h1 h2 => I'.ok.inj y z c (B.c1 h1) (B.c1 h2)) B.cl2 (fun y c h => ⟨I'.cell y c (B.c1 h), I'.freeC y c (B.c1 h)⟩) (closAt_of B I' hfv) ⟨t, rfl⟩ (hbody f c' _ s' H2 (hr1.deeper _)) (qk n hn)) fun r s'' hq => ?_)
  cases r with
  | error e => exact hq.elim
  | ok fl =>
    cases fl with
    | next => exact False.elim hq
    | brk => exact False.elim hq
    | cont => exact False.elim hq
    | ret u =>
      obtain ⟨v', H', J, r', rfl, rfl⟩ := I'.after hq
      exact ⟨r', J⟩
end L2
set_option Elab.async false
set_option linter.all false
set_option maxRecDepth 100000
set_option maxHeartbeats 4000000
namespace L2
open PySem PySem.Spec PyProof.Rows
section
variable {X : Cx}
theorem call_isinst : CallR X (.builtin "isinstance") (fun xs H Q => ∃ x n t b, xs = [x, .ty n] ∧ TyOf X.K H x t ∧ PySem.W.kitOne X.K t (.type n) = some b ∧ Q (.bl b) H) := by
  intro pins s σ H xs us Q I r h
  obtain ⟨x, n, t, b, rfl, ty, e, q⟩ := h
  obtain ⟨u, w', rfl, rx, ry⟩ := vals2 r
  cases (show w' = Value.type n from ry)
  exact isinst_ok I rx ty e fun tk => ⟨.bl b, H, I.tok tk, rfl, q⟩
def rCatT0 (K : PySem.W.Frag) : R2 := fun x y H Q => ∃ a b ys, x = .ref a ∧ y = .ref b ∧ SqT K H a [] ∧ SqT K H b ys ∧ Q (.ref b) H
theorem op_catT0 : OpR X (binaryOp .Add) (rCatT0 X.K) := by
  intro pins s σ H x y v u Q I rx ry h
  obtain ⟨a, b, ys, rfl, rfl, ha, hb, q⟩ := h
  cases rx
  cases ry
  obtain ⟨its, r1, p1, _⟩ := I.tuple ha
  obtain ⟨its2, r2, p2, _⟩ := I.tuple hb
  have e0 : its = [] := r1.nil_iff.mpr rfl
  subst e0
  obtain ⟨⟨cls, dd, data, sl⟩, ho, hc, n, hd⟩ := id p1
  obtain ⟨⟨cls2, dd2, data2, sl2⟩, ho2, hc2, n2, hd2⟩ := id p2
  simp only at hc hd hc2 hd2
  subst hc hd hc2 hd2
  exact concat_meets ⟨_, ho, rfl⟩ ⟨_, ho2, rfl⟩ noFill_tuple_add seq_tuple_add PySem.F.slot_tuple_add PySem.F.entry_tuple_add (PySem.F.args_tuple_add_2 _ _)
      (tuple_addW0 a b _ its2.toArray n n2 dd dd2 sl sl2 (by simp)) ⟨ho, ho2, ⟨.ref b, H, I, rfl, q⟩⟩
theorem vals_of_get : ∀ {xs : List V} {us : List Value}, xs.length = us.length → (∀ (i : Nat) x u, xs[i]? = some x → us[i]? = some u → RelV x u) → Vals xs us
  | [], [], _, _ => .nil
  | [], _ :: _, h, _ => by simp at h
  | _ :: _, [], h, _ => by simp at h
  | x :: xs, u :: us, h, k => .cons (k 0 x u rfl rfl) (vals_of_get (by simpa using h) fun i y w e1 e2 => k (i + 1) y w (by simpa using e1) (by simpa using e2))
theorem call_rng : CallR X (.type "range") (fun xs H Q => ∃ j, xs = [.int j] ∧ ∀ p, H p = none → Q (.ref p) (upd H p (.rng 0 j))) := by
  intro pins s σ H xs us Q I r h
  obtain ⟨j, rfl, q⟩ := h
  obtain ⟨u, rfl, rx⟩ := vals1 r
  obtain ⟨t, rfl⟩ := rx
  refine call_range_1 ?_
  exact ⟨.ref s.heap.objs.size, _, I.laid (a := s.heap.objs.size) (o := .rng 0 j) (fun _ _ q => Heap.get?_push_of_some _ q) (Nat.le_refl _) ⟨_, _, _, Heap.get?_push_size _ rfl⟩, rfl, q _ (I.hok.fresh (Nat.le_refl _))⟩
def nUpTo (n : Nat) : List Int := (List.range n).map fun i : Nat => (i : Int)
theorem call_listRng (hc : X.calm = true) : CallR X (.type "list") (fun xs H Q => ∃ p, ∃ n : Nat, xs = [.ref p] ∧ H p = some (.rng 0 n) ∧ n ≤ 1000000 ∧ ∀ l, H l = none → Q (.ref l) (upd H l (.lst ((nUpTo n).map V.int)))) := by
  intro pins s σ H xs us Q I r h
  obtain ⟨p, n, rfl, hp, hn, q⟩ := h
  obtain ⟨u, rfl, rx⟩ := vals1 r
  cases (show u = Value.ref p from rx)
  obtain ⟨t, t2, t3, e⟩ := (show ObjOk X.prog X.w H s.heap p (.rng 0 n) from I.hok p _ hp)
  refine call_list_range (r := p) (a := 0) (b := n) (c := 1) (n := n) (I.ok.hd hc) e (small_one (by omega) (by omega) (by omega) (by omega)) (by rw [rangeSize_one]; split <;> omega) (by omega) fun h' tk acc' c' kp e2 it => ?_
  obtain ⟨i1, i2⟩ := it
  have hv : Vals ((nUpTo n).map V.int) acc'.toList := vals_of_get (by simp [nUpTo, i1]) fun i x u e3 e4 => by
    have e5 : acc'[i]? = some u := by simpa using e4
    obtain ⟨t', rfl⟩ := i2 i u e5
    simp only [nUpTo, List.map_map, List.getElem?_map] at e3
    cases q2 : (List.range n)[i]? with
    | none => rw [q2] at e3; cases e3
    | some j =>
      rw [q2] at e3
      have hj : j = i := by
        have := List.getElem?_eq_some_iff.mp q2
        obtain ⟨_, w⟩ := this
        rw [List.getElem_range] at w
        exact w.symm
      subst hj
      cases e3
      exact ⟨t', by simp⟩
  have lz : ((nUpTo n).map V.int).length ≤ sizeLine := by
    simp only [nUpTo, List.length_map, List.length_range]
    rw [sizeLine_eq]; omega
  refine ⟨.ref s.heap.objs.size, _, I.laid (t' := tk) kp (Nat.le_refl _) (show ObjOk X.prog X.w _ h' _ (.lst ((nUpTo n).map V.int)) from ⟨lz, acc'.toList, c', hv, by rw [e2]⟩), rfl, q _ (I.hok.fresh (Nat.le_refl _))⟩
theorem call_maxs (hc : X.calm = true) : CallR X (.builtin "max") (fun xs H Q => ∃ p, ∃ ns : List Int, xs = [.ref p] ∧ (SqL X.K H p (ns.map V.int) ∨ SqT X.K H p (ns.map V.int)) ∧ 0 < ns.length ∧ ∀ M, M ∈ ns → (∀ a ∈ ns, a ≤ M) → Q (.int M) H) := by
  intro pins s σ H xs us Q I r h
  obtain ⟨p, ns, rfl, hp, hne, q⟩ := h
  obtain ⟨u, rfl, rx⟩ := vals1 r
  cases (show u = Value.ref p from rx)
  have fin : ∀ (vs : List Value) (it : Obj), Vals (ns.map V.int) vs → (∀ i v, vs.toArray[i]? = some v → ∃ t, v = Value.int (ns.getD i 0) t) → ∀ v h' tk, vs.toArray[argBest (fun i j => decide (ns.getD i 0 > ns.getD j 0)) (vs.toArray.size - 1)]? = some v →
      (∀ b o, b ∉ [s.heap.objs.size] → (s.heap.push it).get? b = some o → h'.get? b = some o) → EP X pins σ Q v { s with heap := h', toks := tk } := by
    intro vs it rv hval v h' tk hP hk
    obtain ⟨t, rfl⟩ := hval _ _ hP
    have hlen : vs.length = ns.length := by have := rv.length; simpa using this.symm
    obtain ⟨h1, h2⟩ := argBest_gt (fun i => ns.getD i 0) (vs.toArray.size - 1)
    rw [List.size_toArray, hlen] at h1 h2
    rw [List.size_toArray, hlen]
    refine ⟨.int _, H, I.kept (t' := tk) fun b o e2 => hk b o (fun hm => ?_) (Heap.get?_push_of_some _ e2), ⟨t, rfl⟩, q _ ?_ fun a ha => ?_⟩
    · rw [List.mem_singleton.mp hm] at e2
      exact Nat.lt_irrefl _ (Heap.lt_size e2)
    · have hlt : argBest (fun i j => decide (ns.getD i 0 > ns.getD j 0)) (ns.length - 1) < ns.length := by omega
      rw [List.getD_eq_getElem?_getD, List.getElem?_eq_getElem hlt]
      exact List.getElem_mem hlt
    · obtain ⟨j, hj, rfl⟩ := List.getElem_of_mem ha
      have := h2 j (by omega)
      rw [List.getD_eq_getElem?_getD, List.getElem?_eq_getElem hj] at this
      exact this
  have hvals : ∀ vs : List Value, Vals (ns.map V.int) vs → ∀ i v, vs.toArray[i]? = some v → ∃ t, v = Value.int (ns.getD i 0) t := by
    intro vs rv i v e
    have e' : vs[i]? = some v := by simpa using e
    have hlen : vs.length = ns.length := by have := rv.length; simpa using this.symm
    have hi : i < ns.length := by rw [← hlen]; exact (List.getElem?_eq_some_iff.mp e').1
    obtain ⟨u, e2, r2⟩ := rv.get (i := i) (x := .int ns[i]) (by rw [List.getElem?_map, List.getElem?_eq_getElem hi]; rfl)
    rw [e'] at e2
    cases e2
    obtain ⟨t, rfl⟩ := r2
    exact ⟨t, by rw [List.getD_eq_getElem?_getD, List.getElem?_eq_getElem hi]; rfl⟩
  have pos : ∀ vs : List Value, Vals (ns.map V.int) vs → 0 < vs.toArray.size := fun vs rv => by
    have := rv.length
    rw [List.length_map] at this
    rw [List.size_toArray]; omega
  rcases hp with hp | hp
  · obtain ⟨vs, rv, pl, hz⟩ := I.list hp
    have hl := pl.isList
    have hlt : p < s.heap.objs.size := by obtain ⟨_, e, _⟩ := hl; exact Heap.lt_size e
    refine call_max_walk (wpAny_pyIter_list hl ?_)
    refine ⟨s.heap.objs.size, [s.heap.objs.size, p], [s.heap.objs.size], _, _, _, _, rfl, Walks.list (A := X.A.in1) (I.ok.hd hc) _ p (Nat.ne_of_lt hlt) vs.toArray, ⟨⟨_, Heap.get?_push_size _ rfl, rfl, rfl⟩, hl.push _⟩, fun b hb => ?_, pos vs rv, CmpOf.ints_gt (fun i => ns.getD i 0) (hvals vs rv), fun v h' tk hP hk => fin vs _ rv (hvals vs rv) v h' tk hP hk⟩
    show b < (s.heap.push _).objs.size
    rw [Heap.size_push]
    simp only [List.mem_cons, List.not_mem_nil, or_false] at hb
    rcases hb with rfl | rfl
    · exact Nat.lt_succ_self _
    · exact Nat.lt_succ_of_lt hlt
  · obtain ⟨vs, rv, pl, hz⟩ := I.tuple hp
    have hl : s.heap.IsTuple p vs.toArray := pl
    have hlt : p < s.heap.objs.size := by obtain ⟨_, e, _⟩ := hl; exact Heap.lt_size e
    refine call_max_walk (wpAny_pyIter_tuple hl ?_)
    refine ⟨s.heap.objs.size, [s.heap.objs.size, p], [s.heap.objs.size], _, _, _, _, rfl, Walks.tuple (A := X.A.in1) (I.ok.hd hc) _ p (Nat.ne_of_lt hlt) vs.toArray, ⟨⟨_, Heap.get?_push_size _ rfl, rfl, rfl⟩, hl.push _⟩, fun b hb => ?_, pos vs rv, CmpOf.ints_gt (fun i => ns.getD i 0) (hvals vs rv), fun v h' tk hP hk => fin vs _ rv (hvals vs rv) v h' tk hP hk⟩
    show b < (s.heap.push _).objs.size
    rw [Heap.size_push]
    simp only [List.mem_cons, List.not_mem_nil, or_false] at hb
    rcases hb with rfl | rfl
    · exact Nat.lt_succ_self _
    · exact Nat.lt_succ_of_lt hlt
end
end L2
set_option Elab.async false
set_option linter.all false
set_option maxRecDepth 100000
set_option maxHeartbeats 4000000
namespace L2
open PySem PySem.Spec PyProof.Rows
theorem same_add {H : Hp} {d : Addr} {o : HO} (h : H d = Option.none) : Same H (upd H d o) := fun b u e => by rw [upd_ne (ne_of_none e h)]; exact e
theorem le1000 {n : Nat} (h : Nat.ble n 1000 = true) : n ≤ sizeLine := by
  have := Nat.le_of_ble_eq_true h
  rw [sizeLine_eq]; omega
theorem leMil {n : Nat} (h : n ≤ 100000) : n ≤ sizeLine := by rw [sizeLine_eq]; omega
def plainE : Expr → Bool
  | .Starred _ _ => false
  | _ => true
theorem star_cons {e : Expr} {es : List Expr} {env : Env} (h : plainE e = true) : starEach (e :: es) env = (false, eval e env) :: starEach es env := by
  cases e <;> first | rfl | cases h
theorem star_any {env : Env} {pos : Pos} : ∀ {es : List Expr}, es.all plainE = true → (backTo pos (starEach es env)).any (·.1) = false
  | [], _ => rfl
  | e :: es, h => by
    have h1 : plainE e = true ∧ es.all plainE = true := by simpa [List.all_cons, Bool.and_eq_true] using h
    rw [star_cons h1.1]
    have ih := star_any (env := env) (pos := pos) h1.2
    unfold backTo at ih ⊢
    rw [List.map_cons, List.any_cons, ih]
    rfl
theorem pa_c {X : Cx} {e : Expr} {es : List Expr} {te : TE} {t : TA} (ha : PE X e te) (hr : PA X es t) (hs : plainE e = true := by rfl) : PA X (e :: es) (tCons te t) := pa_cons ha hr (star_cons hs)
structure FnE (P : Program) (w : World) (K : PySem.W.Frag) (mg : Str → Option Value) (base : Heap) (x : Str) (ps : List Str) (k : Nat) (sp : Sp) : Prop where
  ex : ∃ f fd, FnOk P w K mg base CX0 k f fd ps sp ∧ mg x = some (.ref f) ∧ PySem.W.keepIn K (.ref f) = true ∧ Binds K fd ps []
theorem FnE.mono {P : Program} {w : World} {K : PySem.W.Frag} {mg : Str → Option Value} {base : Heap} {x : Str} {ps : List Str} {j k : Nat} {sp : Sp} (F : FnE P w K mg base x ps j sp) (h : j ≤ k) : FnE P w K mg base x ps k sp :=
  let ⟨f, fd, a, b⟩ := F.ex; ⟨f, fd, a.mono h, b⟩
theorem pe_fn {X : Cx} {x : Str} {ps : List Str} {k : Nat} {sp : Sp} {e : Expr} {es : List Expr} {t : TA} {p pos : Pos} (F : FnE X.prog X.w X.K X.mg X.base x ps k sp) (hr : Room k X.A) (ha : PA X (e :: es) t) (hg : Gl X x := by rfl)
    (hdb : (x == ("__debug__" : Str)) = false := by decide) (he : starEach (e :: es) X.env = (false, eval e X.env) :: starEach es X.env := by rfl) (hpl : (backTo pos (starEach es X.env)).any (·.1) = false := by rfl) :
    PE X (.Call (.Name x p) (e :: es) [] pos) (tCall sp [] E0 t) :=
  let ⟨_, _, a, b, c, d⟩ := F.ex; pe_call a hr hg b c d .nil pass0 ha hdb he hpl
theorem pe_fc {X : Cx} {x : Str} {ps : List Str} {k : Nat} {sp : Sp} {e : Expr} {es : List Expr} {t : TA} {p pos : Pos} (F : FnE X.prog X.w X.K X.mg X.base x ps k sp) (hr : Room k X.A) (ha : PA X (e :: es) t) (hg : Gl X x := by rfl)
    (hdb : (x == ("__debug__" : Str)) = false := by decide) (he : plainE e = true := by rfl) (hpl : es.all plainE = true := by rfl) : PE X (.Call (.Name x p) (e :: es) [] pos) (tCall sp [] E0 t) :=
  pe_fn F hr ha hg hdb (star_cons he) (star_any hpl)
def tTupS (t : TA) : TE := fun σ H Q => t σ H fun xs H1 => Nat.ble xs.length 1000 = true ∧ ∀ p H', Same H1 H' → H' p = some (.tup xs) → Q (.ref p) H'
def tLstS (t : TA) : TE := fun σ H Q => t σ H fun xs H1 => Nat.ble xs.length 1000 = true ∧ ∀ p H', Same H1 H' → H' p = some (.lst xs) → Q (.ref p) H'
section
variable {X : Cx} {e : Expr} {es : List Expr} {te : TE} {t : TA} {pos : Pos}
theorem OpR.weak {f : Value → Value → Sem Value} {r r' : R2} (h : OpR X f r) (k : ∀ x y H Q, r' x y H Q → r x y H Q) : OpR X f r' := fun pins s σ H x y v u Q I rx ry q => h pins s σ H x y v u Q I rx ry (k _ _ _ _ q)
theorem CallR.weak {f : Value} {r r' : List V → Hp → VK → Prop} (h : CallR X f r) (k : ∀ xs H Q, r' xs H Q → r xs H Q) : CallR X f r' := fun pins s σ H xs us Q I r q => h pins s σ H xs us Q I r (k _ _ _ q)
theorem pe_tupS {x1} (h : PA X es t) : PE X (.Tuple es x1 pos) (tTupS t) := by
  intro pins s σ H Q I hq
  refine wpAny_Tuple_spliced (thn (h pos pins s σ H _ I hq) fun us s1 ⟨xs, H1, I1, r, z, q⟩ => ⟨by rw [← r.length]; exact le1000 z, ?_⟩)
  have hf : H1 s1.heap.objs.size = none := I1.hok.fresh (Nat.le_refl _)
  refine ⟨.ref s1.heap.objs.size, upd H1 s1.heap.objs.size (.tup xs), I1.laid (t' := s1.toks) (fun b u e => Heap.get?_push_of_some _ e) (Nat.le_refl _) ?_, rfl, q _ _ (same_add hf) upd_same⟩
  exact ⟨le1000 z, us, r, ⟨_, Heap.get?_push_size _ rfl, rfl, _, rfl⟩⟩
theorem pe_lstS (h : PA X es t) : PE X (.List es pos) (tLstS t) := by
  intro pins s σ H Q I hq
  refine wpAny_List_spliced (thn (h pos pins s σ H _ I hq) fun us s1 ⟨xs, H1, I1, r, z, q⟩ => ⟨by rw [← r.length]; exact le1000 z, ?_⟩)
  have hf : H1 s1.heap.objs.size = none := I1.hok.fresh (Nat.le_refl _)
  refine ⟨.ref s1.heap.objs.size, upd H1 s1.heap.objs.size (.lst xs), I1.laid (t' := s1.toks) (fun b u e => Heap.get?_push_of_some _ e) (Nat.le_refl _) ?_, rfl, q _ _ (same_add hf) upd_same⟩
  exact ⟨le1000 z, us, 0, r, Heap.get?_push_size _ rfl⟩
def rCatTS : R2 := fun x y H Q => ∃ a b xs ys, x = .ref a ∧ y = .ref b ∧ H a = some (.tup xs) ∧ H b = some (.tup ys) ∧ xs.length + ys.length ≤ 100000 ∧ ∀ p H', Same H H' → H' p = some (.tup (xs ++ ys)) → Q (.ref p) H'
theorem op_catTS : OpR X (binaryOp .Add) rCatTS := by
  intro pins s σ H x y v u Q I rx ry h
  obtain ⟨a, b, xs, ys, rfl, rfl, ha, hb, hz, q⟩ := h
  by_cases h0 : xs = []
  · subst h0
    exact op_catT0 pins s σ H _ _ v u Q I rx ry ⟨a, b, ys, rfl, rfl, SqT.of ha, SqT.of hb, q b H (Same.refl H) hb⟩
  · refine op_catT pins s σ H _ _ v u Q I rx ry ⟨a, b, xs, ys, rfl, rfl, SqT.of ha, SqT.of hb, h0, leMil hz, fun z => ?_, fun _ p hp => q p _ (same_add hp) upd_same⟩
    subst z
    exact q a H (Same.refl H) (by rw [List.append_nil]; exact ha)
def rCatLS : R2 := fun x y H Q => ∃ a b xs ys, x = .ref a ∧ y = .ref b ∧ H a = some (.lst xs) ∧ H b = some (.lst ys) ∧ xs.length + ys.length ≤ 100000 ∧ ∀ p H', Same H H' → H' p = some (.lst (xs ++ ys)) → Q (.ref p) H'
theorem op_catLS : OpR X (binaryOp .Add) rCatLS := op_cat.weak fun x y H Q ⟨a, b, xs, ys, e1, e2, h1, h2, z, q⟩ => ⟨a, b, xs, ys, e1, e2, h1, h2, leMil z, fun p hp => q p _ (same_add hp) upd_same⟩
theorem call_tuple_ofS : CallR X (.type "tuple") (fun xs H Q => ∃ p ys, xs = [.ref p] ∧ (H p = some (.lst ys) ∨ H p = some (.tup ys)) ∧ ∀ l H', Same H H' → H' l = some (.tup ys) → Q (.ref l) H') :=
  call_tuple_of.weak fun xs H Q ⟨p, ys, e, h, q⟩ => ⟨p, ys, e, by
    rcases h with h | h
    · exact .inl ⟨SqL.of h, fun l hl => q l _ (same_add hl) upd_same⟩
    · exact .inr ⟨SqT.of h, q p H (Same.refl H) h⟩⟩
end
def MonoE (t : TE) : Prop := ∀ σ H (Q Q' : VK), (∀ v H', Q v H' → Q' v H') → t σ H Q → t σ H Q'
theorem mono_var (i : Nat) : MonoE (tVar i) := fun σ H Q Q' k ⟨v, e, q⟩ => ⟨v, e, k _ _ q⟩
theorem mono_c (v : V) : MonoE (tC v) := fun σ H Q Q' k q => k _ _ q
theorem mono_ixT {K : PySem.W.Frag} {ta tb : TE} (ha : MonoE ta) (hb : MonoE tb) : MonoE (tOp (rIxT K) ta tb) := fun σ H Q Q' k q => ha σ H _ _ (fun x H1 q => hb σ H1 _ _ (fun y H2 ⟨p, xs, i, v, e1, e2, h, a, q⟩ => ⟨p, xs, i, v, e1, e2, h, a, k _ _ q⟩) q) q
def tLCT (K : PySem.W.Frag) (bs : List (Option Nat)) (tl : TE) (g : TG) (tt : TT) (te : TE) : TE := fun σ H Q => tl σ H fun x H1 => ∃ a xs, x = .ref a ∧ SqT K H1 a xs ∧ xs.length ≤ 100000 ∧ ∃ Pv : Nat → List V → St → Hp → Prop, Pv 0 [] (bst bs σ) H1 ∧
  (∀ i ys σ H, i ≤ xs.length → Pv i ys σ H → SqT K H a xs ∧ ys.length ≤ i) ∧
  (∀ i x ys σ H, xs[i]? = some x → Pv i ys σ H → g x σ H fun σ3 H3 => tt σ3 H3 fun b H4 => if b = true then te σ3 H4 fun v H5 => Pv (i + 1) (ys ++ [v]) σ3 H5 else Pv (i + 1) ys σ3 H4) ∧
  ∀ ys σ H, Pv xs.length ys σ H → ∀ p H', Same H H' → H' p = some (.lst ys) → Q (.ref p) H'
theorem pe_lcT {X : Cx} {scope : Scope} {cl : List (Str × Addr)} {N : List Str} {bs : List (Option Nat)} {tg iter elt : Expr} {ifs : List Expr} {pos : Pos} {tl : TE} {g : TG} {tt : TT} {te : TE} (B : Blk X scope cl N bs) (hc : X.calm = true)
    (hl : PE X iter tl) (hm : MonoE tl) (hg : ∀ C fp s H, PG (cxBlk X scope cl C N fp s H) tg g) (ht : ∀ C fp s H, PTs (cxBlk X scope cl C N fp s H) ifs tt) (he : ∀ C fp s H, PE (cxBlk X scope cl C N fp s H) elt te)
    (hs : ∀ x, foldedSetIterable iter X.env x = pure x := by intro _; rfl) : PE X (.ListComp elt [⟨tg, iter, ifs, 0⟩] scope pos) (tLCT X.K bs tl g tt te) := by
  intro pins s σ H Q I h
  refine @pe_lc X scope cl N bs tg iter elt ifs pos (iTup X.K tl) g tt te B hc (@pi_tup X _ _ _ hl) hg ht he hs pins s σ H Q I ?_
  refine hm σ H _ _ (fun x H1 h => ?_) h
  obtain ⟨a, xs, e, hS, hz, Pv, p0, pl, ps, pd⟩ := h
  exact ⟨a, e, ⟨xs, hS⟩, lc_tup (Q := Q) Pv (leMil hz) p0 pl ps fun ys σ H hp p hpn => pd ys σ H hp p _ (same_add hpn) upd_same⟩
end L2
set_option Elab.async false
set_option linter.all false
set_option maxRecDepth 100000
set_option maxHeartbeats 4000000
namespace L2
open PySem PySem.Spec PyProof.Rows
def MonoA (t : TA) : Prop := ∀ σ H (Q Q' : List V → Hp → Prop), (∀ v H', Q v H' → Q' v H') → t σ H Q → t σ H Q'
theorem monoA_nil : MonoA tNil := fun σ H Q Q' k q => k _ _ q
theorem monoA_cons {te : TE} {tr : TA} (ha : MonoE te) (hr : MonoA tr) : MonoA (tCons te tr) := fun σ H Q Q' k q => ha σ H _ _ (fun x H1 q => hr σ H1 _ _ (fun xs H2 q => k _ _ q) q) q
def rLen (K : PySem.W.Frag) : List V → Hp → VK → Prop := fun xs H Q => ∃ p ys, xs = [.ref p] ∧ (SqL K H p ys ∨ SqT K H p ys) ∧ Q (.int ys.length) H
theorem call_lenK {X : Cx} {K : PySem.W.Frag} (hK : X.K = K) : CallR X (.builtin "len") (rLen K) := by
  subst hK
  exact call_len_seq
theorem lc_range {lo : Int} {n : Nat} {g : TG} {tt : TT} {te : TE} {σ : St} {H : Hp} {Q : VK} (Pv : Nat → List V → St → Hp → Prop) (hz : n ≤ sizeLine) (h0 : Pv 0 [] σ H) (hl : ∀ i ys σ H, i ≤ n → Pv i ys σ H → ys.length ≤ i)
    (hs : ∀ i ys σ H, i < n → Pv i ys σ H → g (.int (lo + i)) σ H fun σ3 H3 => tt σ3 H3 fun b H4 => if b = true then te σ3 H4 fun v H5 => Pv (i + 1) (ys ++ [v]) σ3 H5 else Pv (i + 1) ys σ3 H4)
    (hd : ∀ ys σ H, Pv n ys σ H → ∀ p, H p = none → Q (.ref p) (upd H p (.lst ys))) :
    ∃ W : Nat → Nat → List V → St → Hp → Prop, (∃ m, W 0 m [] σ H) ∧ ∀ i m ys σ' H', W i m ys σ' H' →
      ((Itr lo n).stop i H' ∧ ys.length ≤ sizeLine ∧ ∀ p, H' p = none → Q (.ref p) (upd H' p (.lst ys))) ∨
      ((Itr lo n).go i H' ∧ ys.length < sizeLine ∧ ∃ N : List V → St → Hp → Prop, (∀ zs σ2 H2, N zs σ2 H2 → ∃ m', m' < m ∧ W (i + 1) m' zs σ2 H2) ∧ ∀ x H2, (Itr lo n).yld i H' x H2 → g x σ' H2 fun σ3 H3 => tt σ3 H3 fun b H4 =>
        if b = true then te σ3 H4 fun v H5 => N (ys ++ [v]) σ3 H5 else N ys σ3 H4) := by
  refine ⟨fun i m ys σ H => m = n - i ∧ i ≤ n ∧ Pv i ys σ H, ⟨n, by simp, Nat.zero_le _, h0⟩, ?_⟩
  rintro i m ys σ H ⟨rfl, hi, p⟩
  have ql := hl i ys σ H hi p
  by_cases hlt : i < n
  · refine .inr ⟨hlt, by omega, Pv (i + 1), fun zs σ' H' p' => ⟨n - (i + 1), by omega, rfl, hlt, p'⟩, fun x H' y => ?_⟩
    obtain ⟨e, y⟩ := y
    subst e
    subst y
    exact hs i ys σ _ hlt p
  · have e : i = n := by omega
    subst e
    exact .inl ⟨Nat.le_refl _, by omega, hd ys σ H p⟩
def tLCR (bs : List (Option Nat)) (ta : TA) (g : TG) (tt : TT) (te : TE) : TE := fun σ H Q => ta σ H fun vs H1 => ∃ n : Nat, vs = [.int (n : Int)] ∧ n ≤ 100000 ∧ ∃ Pv : Nat → List V → St → Hp → Prop, Pv 0 [] (bst bs σ) H1 ∧
  (∀ i ys σ H, i ≤ n → Pv i ys σ H → ys.length ≤ i) ∧
  (∀ i ys σ H, i < n → Pv i ys σ H → g (.int (0 + i)) σ H fun σ3 H3 => tt σ3 H3 fun b H4 => if b = true then te σ3 H4 fun v H5 => Pv (i + 1) (ys ++ [v]) σ3 H5 else Pv (i + 1) ys σ3 H4) ∧
  ∀ ys σ H, Pv n ys σ H → ∀ p H', Same H H' → H' p = some (.lst ys) → Q (.ref p) H'
theorem pe_lcR {X : Cx} {scope : Scope} {cl : List (Str × Addr)} {N : List Str} {bs : List (Option Nat)} {tg a elt : Expr} {ifs : List Expr} {p pos' pos : Pos} {ta : TA} {g : TG} {tt : TT} {te : TE} (B : Blk X scope cl N bs) (hc : X.calm = true)
    (hgl : Gl X "range") (hmr : X.mg "range" = none) (ha : PA X [a] ta) (hm : MonoA ta) (hpl : plainE a = true) (hg : ∀ C fp s H, PG (cxBlk X scope cl C N fp s H) tg g) (ht : ∀ C fp s H, PTs (cxBlk X scope cl C N fp s H) ifs tt) (he : ∀ C fp s H, PE (cxBlk X scope cl C N fp s H) elt te)
    (hs : ∀ x, foldedSetIterable (.Call (.Name "range" p) [a] [] pos') X.env x = pure x := by intro _; rfl) : PE X (.ListComp elt [⟨tg, .Call (.Name "range" p) [a] [] pos', ifs, 0⟩] scope pos) (tLCR bs ta g tt te) := by
  intro pins s σ H Q I h
  refine @pe_lc X scope cl N bs tg _ elt ifs pos (iRng1 ta) g tt te B hc (@pi_range1 X tg a ta p pos' hgl hmr ha (star_cons hpl)) hg ht he hs pins s σ H Q I ?_
  refine hm σ H _ _ (fun vs H1 h => ?_) h
  obtain ⟨n, e, hz, Pv, p0, pl, ps, pd⟩ := h
  refine ⟨(n : Int), e, by omega, by omega, ?_⟩
  rw [Int.toNat_natCast]
  exact lc_range (Q := Q) Pv (leMil hz) p0 pl ps fun ys σ H hp p hpn => pd ys σ H hp p _ (same_add hpn) upd_same
theorem lc_list {K : PySem.W.Frag} {a : Addr} {xs : List V} {g : TG} {tt : TT} {te : TE} {σ : St} {H : Hp} {Q : VK} (Pv : Nat → List V → St → Hp → Prop) (hz : xs.length ≤ sizeLine) (h0 : Pv 0 [] σ H) (hl : ∀ i ys σ H, i ≤ xs.length → Pv i ys σ H → SqL K H a xs ∧ ys.length ≤ i)
    (hs : ∀ i x ys σ H, xs[i]? = some x → Pv i ys σ H → g x σ H fun σ3 H3 => tt σ3 H3 fun b H4 => if b = true then te σ3 H4 fun v H5 => Pv (i + 1) (ys ++ [v]) σ3 H5 else Pv (i + 1) ys σ3 H4)
    (hd : ∀ ys σ H, Pv xs.length ys σ H → ∀ p, H p = none → Q (.ref p) (upd H p (.lst ys))) :
    ∃ W : Nat → Nat → List V → St → Hp → Prop, (∃ m, W 0 m [] σ H) ∧ ∀ i m ys σ' H', W i m ys σ' H' →
      ((Itl K a).stop i H' ∧ ys.length ≤ sizeLine ∧ ∀ p, H' p = none → Q (.ref p) (upd H' p (.lst ys))) ∨
      ((Itl K a).go i H' ∧ ys.length < sizeLine ∧ ∃ N : List V → St → Hp → Prop, (∀ zs σ2 H2, N zs σ2 H2 → ∃ m', m' < m ∧ W (i + 1) m' zs σ2 H2) ∧ ∀ x H2, (Itl K a).yld i H' x H2 → g x σ' H2 fun σ3 H3 => tt σ3 H3 fun b H4 =>
        if b = true then te σ3 H4 fun v H5 => N (ys ++ [v]) σ3 H5 else N ys σ3 H4) := by
  refine ⟨fun i m ys σ H => m = xs.length - i ∧ i ≤ xs.length ∧ Pv i ys σ H, ⟨xs.length, by simp, Nat.zero_le _, h0⟩, ?_⟩
  rintro i m ys σ H ⟨rfl, hi, p⟩
  obtain ⟨q, ql⟩ := hl i ys σ H hi p
  by_cases hlt : i < xs.length
  · refine .inr ⟨⟨xs, xs[i], q, by simp [hlt]⟩, by omega, Pv (i + 1), fun zs σ' H' p' => ⟨xs.length - (i + 1), by omega, rfl, hlt, p'⟩, fun x H' y => ?_⟩
    obtain ⟨e, y⟩ := y
    subst e
    exact hs i x ys σ _ (y xs q) p
  · have e : i = xs.length := by omega
    subst e
    exact .inl ⟨⟨xs, q, Nat.le_refl _⟩, by omega, hd ys σ H p⟩
def tLCL (K : PySem.W.Frag) (bs : List (Option Nat)) (tl : TE) (g : TG) (tt : TT) (te : TE) : TE := fun σ H Q => tl σ H fun x H1 => ∃ a xs, x = .ref a ∧ SqL K H1 a xs ∧ xs.length ≤ 100000 ∧ ∃ Pv : Nat → List V → St → Hp → Prop, Pv 0 [] (bst bs σ) H1 ∧
  (∀ i ys σ H, i ≤ xs.length → Pv i ys σ H → SqL K H a xs ∧ ys.length ≤ i) ∧
  (∀ i x ys σ H, xs[i]? = some x → Pv i ys σ H → g x σ H fun σ3 H3 => tt σ3 H3 fun b H4 => if b = true then te σ3 H4 fun v H5 => Pv (i + 1) (ys ++ [v]) σ3 H5 else Pv (i + 1) ys σ3 H4) ∧
  ∀ ys σ H, Pv xs.length ys σ H → ∀ p H', Same H H' → H' p = some (.lst ys) → Q (.ref p) H'
theorem pe_lcL {X : Cx} {scope : Scope} {cl : List (Str × Addr)} {N : List Str} {bs : List (Option Nat)} {tg iter elt : Expr} {ifs : List Expr} {pos : Pos} {tl : TE} {g : TG} {tt : TT} {te : TE} (B : Blk X scope cl N bs) (hc : X.calm = true)
    (hl : PE X iter tl) (hm : MonoE tl) (hg : ∀ C fp s H, PG (cxBlk X scope cl C N fp s H) tg g) (ht : ∀ C fp s H, PTs (cxBlk X scope cl C N fp s H) ifs tt) (he : ∀ C fp s H, PE (cxBlk X scope cl C N fp s H) elt te)
    (hs : ∀ x, foldedSetIterable iter X.env x = pure x := by intro _; rfl) : PE X (.ListComp elt [⟨tg, iter, ifs, 0⟩] scope pos) (tLCL X.K bs tl g tt te) := by
  intro pins s σ H Q I h
  refine @pe_lc X scope cl N bs tg iter elt ifs pos (iList X.K tl) g tt te B hc (@pi_list X _ _ _ hl) hg ht he hs pins s σ H Q I ?_
  refine hm σ H _ _ (fun x H1 h => ?_) h
  obtain ⟨a, xs, e, hS, hz, Pv, p0, pl, ps, pd⟩ := h
  exact ⟨a, e, ⟨xs, hS⟩, lc_list (Q := Q) Pv (leMil hz) p0 pl ps fun ys σ H hp p hpn => pd ys σ H hp p _ (same_add hpn) upd_same⟩
end L2
set_option Elab.async false
set_option linter.all false
set_option maxRecDepth 100000
set_option maxHeartbeats 4000000
namespace PySem
open Sem (wp)
open AutoSeq1 (wpAny_loadPart')
section
variable {prog : Program} {w : World} {A : Around} {E : Value → Shared → Prop} {s : Shared}
theorem nextOf_tuple_item {it l : Addr} {i : Nat} {items} {x : Value} {Q : Value → Shared → Prop} (hit : s.heap.IsTupleIter it l i)
    (hl : s.heap.IsTuple l items) (hx : items[i]? = some x)
    (hQ : ∀ h', h'.IsTupleIter it l (i + 1) → Heap.SameBut it s.heap h' → Q x { s with heap := h' }) :
    wpAny (model prog w) A (Builtin.SmallTypes.nextOf (.ref it)) Q E s := by
  obtain ⟨o, ho, hc, hd⟩ := id hit
  obtain ⟨ol, hol, _, nl, hdl⟩ := hl
  unfold Builtin.SmallTypes.nextOf
  refine wpAny_bind (wpAny_callSpecial?_slot (name := Str.ofString "__next__") hit.typeIs F.slot_tuple_iterator_next
    (wpAny_call_entry F.slot_tuple_iterator_next hit.typeIs F.entry_tuple_iterator_next ?_ (F.args_tuple_iterator_next_1 _)))
  show wpAny _ _ (field (.ref it) 0 >>= _) _ _ s
  refine wpAny_bind (wpAny_field ho hd (x := .ref l) rfl ?_)
  show wpAny _ _ (if (Value.ref l == Value.none) = true then _ else _) _ _ s
  rw [if_neg (show ¬ ((Value.ref l == Value.none) = true) from Bool.false_ne_true)]
  show wpAny _ _ (field (.ref it) 1 >>= _) _ _ s
  refine wpAny_bind (wpAny_field ho hd (x := .int i 0) rfl ?_)
  show wpAny _ _ (seqItems? (.ref l) >>= _) _ _ s
  refine wpAny_bind (wpAny_seqItems hol hdl ?_)
  simp only [Int.toNat_natCast, hx]
  refine wpAny_bind (wpAny_setField ho hd (by simp) (wpAny_pure ⟨x, rfl, wpAny_pure (hQ _ ?_ (Heap.SameBut.update ..))⟩))
  exact ⟨_, Heap.get?_update_self _ ho (Obj.isFreed_of_fields (Obj.data_mapFields hd _)), (Obj.cls_mapFields ..).trans hc, by
    rw [Obj.data_mapFields hd]; simp [rawInt]⟩
theorem nextOf_tuple_end {it l : Addr} {i : Nat} {items} {Q : Value → Shared → Prop} (hh : A.handled = none)
    (hit : s.heap.IsTupleIter it l i) (hl : s.heap.IsTuple l items) (hx : items[i]? = none)
    (hE : ∀ h' e, Heap.ExtBut it s.heap h' → (∃ o, h'.get? e = some o ∧ o.cls = .type "StopIteration") → E (.ref e) { s with heap := h' }) :
    wpAny (model prog w) A (Builtin.SmallTypes.nextOf (.ref it)) Q E s := by
  obtain ⟨o, ho, hc, hd⟩ := id hit
  obtain ⟨ol, hol, _, nl, hdl⟩ := hl
  unfold Builtin.SmallTypes.nextOf
  refine wpAny_bind (wpAny_callSpecial?_slot (name := Str.ofString "__next__") hit.typeIs F.slot_tuple_iterator_next
    (wpAny_call_entry F.slot_tuple_iterator_next hit.typeIs F.entry_tuple_iterator_next ?_ (F.args_tuple_iterator_next_1 _)))
  show wpAny _ _ (field (.ref it) 0 >>= _) _ _ s
  refine wpAny_bind (wpAny_field ho hd (x := .ref l) rfl ?_)
  show wpAny _ _ (if (Value.ref l == Value.none) = true then _ else _) _ _ s
  rw [if_neg (show ¬ ((Value.ref l == Value.none) = true) from Bool.false_ne_true)]
  show wpAny _ _ (field (.ref it) 1 >>= _) _ _ s
  refine wpAny_bind (wpAny_field ho hd (x := .int i 0) rfl ?_)
  show wpAny _ _ (seqItems? (.ref l) >>= _) _ _ s
  refine wpAny_bind (wpAny_seqItems hol hdl ?_)
  simp only [Int.toNat_natCast, hx]
  refine wpAny_bind (wpAny_rule (wpAny_bind (wpAny_setField ho hd (by simp) ?_)))
  show wpAny _ _ (newExc (.type "StopIteration") [] >>= _) _ _ _
  refine wpAny_bind ?_
  simp only [newExc, newTuple]
  refine wpAny_bind (wpAny_newObj_type ?_ (by size_fits))
  refine wpAny_bind (m := firstArgMember _ _) (wpAny_of_eq (a := Value.none) (by first | rfl | (simp only [firstArgMember]; rfl)) ?_)
  refine wpAny_newObj_type ?_ (by size_fits)
  simp only [raiseNew]
  refine wpAny_bind (wpAny_handled ?_)
  first | rw [show A.in1.handled = none from hh] | rw [hh]
  refine wpAny_bind (wpAny_pure (wpAny_throw ?_))
  exact hE _ _ (((Heap.SameBut.update ..).extBut.push _).push _) ⟨_, Heap.get?_push_size _ rfl, rfl⟩
end
theorem Draws.tupleD {prog : Program} {w : World} {A : Around} (hh : A.handled = none) (it l : Addr) (hne : l ≠ it) (items : Array Value) :
    Draws prog w A it [it, l] items.size (fun i v => items[i]? = some v) (fun i h => h.IsTupleIter it l i ∧ h.IsTuple l items) where
  live := fun _ _ st => let ⟨o, ho, _⟩ := st.1; ⟨o, ho⟩
  frame := fun _ _ _ st hk => ⟨let ⟨o, ho, r⟩ := st.1; ⟨o, hk it (by simp) o ho, r⟩, let ⟨o, ho, r⟩ := st.2; ⟨o, hk l (by simp) o ho, r⟩⟩
  item := fun i s Q E hi st hQ => by
    refine nextOf_tuple_item st.1 st.2 (x := items[i]) (by simp [hi]) fun h' hit' hs' => ?_
    exact hQ _ h' s.toks (by simp [hi]) ⟨hit', st.2.extBut hs'.extBut hne⟩ hs'
  done := fun s Q E st hE => nextOf_tuple_end hh st.1 st.2 (by simp) hE
theorem meets_enumerate_newT (l : Addr) (items : Array Value) (n : Nat) (dct : Option Addr) (sl : Array (Option Value)) :
    Meets (Builtin.«enumerate.__new__» ⟨[.type "enumerate", .ref l], []⟩) (fun _ R s => s.heap.get? l = some { cls := .type "tuple", dict := dct, data := .seq items n, slots := sl } ∧
      R (.ok (.ret (.ref (s.heap.push { cls := .type "tuple_iterator", data := .fields #[.ref l, .int 0 0] }).objs.size)))
        { s with heap := (s.heap.push { cls := .type "tuple_iterator", data := .fields #[.ref l, .int 0 0] }).push { cls := .type "enumerate", data := .fields #[.none, .bool false, .ref s.heap.objs.size, rawInt 0, .none, .none] } }) :=
  .of_wp fun prog w A R s h => by
    obtain ⟨hp, g, d, tk, os⟩ := s; obtain ⟨hl, h⟩ := h
    have hsub := sub_enumerate
    have hL : Heap.IsTuple (Shared.heap ⟨hp, g, d, tk, os⟩) l items := ⟨_, hl, rfl, n, rfl⟩
    wp_walk using wpAny_loadPart' hl
    refine wpAny_stack_any fun st => wpAny_pure ?_
    split
    · rename_i c _ _ _ _ _
      cases (c == Value.type "enumerate")
      · wp_walk using wpAny_loadPart' hl, wpAny_pyIter_tuple hL
        exact ⟨_, rfl, h⟩
      · wp_walk using wpAny_loadPart' hl, wpAny_pyIter_tuple hL
        exact ⟨_, rfl, h⟩
    · wp_walk using wpAny_loadPart' hl, wpAny_pyIter_tuple hL
      exact ⟨_, rfl, h⟩
section
variable {prog : Program} {w : World} {A : Around} {E : Value → Shared → Prop} {s : Shared}
theorem call_enumerate_tuple {l : Addr} {items : Array Value} {Q : Value → Shared → Prop} (hL : s.heap.IsTuple l items)
    (h : ∀ h', IsEnum h' (s.heap.objs.size + 1) s.heap.objs.size 0 .none → h'.IsTupleIter s.heap.objs.size l 0 → h'.objs.size = s.heap.objs.size + 2 →
      (∀ b o, s.heap.get? b = some o → h'.get? b = some o) → Q (.ref (s.heap.objs.size + 1)) { s with heap := h' }) :
    wpAny (model prog w) A (call (.type "enumerate") [.ref l]) Q E s := by
  obtain ⟨⟨c, dct, dt, sl⟩, hl, hc, n, hd⟩ := hL
  replace hc : c = .type "tuple" := hc
  replace hd : dt = .seq items n := hd
  subst hc hd
  refine callType_new F.called_enumerate (by decide) (F.typeCall_enumerate_1 _) (F.newCall_enumerate_1 _) (fun obj => F.args_object_init_2 obj _) F.entry_enumerate_new
    (meets_enumerate_newT l items n dct sl) ⟨hl, ?_⟩
  have hz : (s.heap.push { cls := .type "tuple_iterator", data := .fields #[.ref l, .int 0 0] }).objs.size = s.heap.objs.size + 1 := Heap.size_push ..
  show _ ∧ _
  rw [hz]
  have he : IsEnum ((s.heap.push { cls := .type "tuple_iterator", data := .fields #[.ref l, .int 0 0] }).push
      { cls := .type "enumerate", data := .fields #[.none, .bool false, .ref s.heap.objs.size, rawInt 0, .none, .none] }) (s.heap.objs.size + 1) s.heap.objs.size 0 .none := by
    have := Heap.get?_push_size (s.heap.push { cls := .type "tuple_iterator", data := .fields #[.ref l, .int 0 0] })
      (o := { cls := .type "enumerate", data := .fields #[.none, .bool false, .ref s.heap.objs.size, rawInt 0, .none, .none] }) rfl
    rw [hz] at this; exact this
  refine ⟨⟨_, he, rfl⟩, h _ he ⟨_, Heap.get?_push_of_some _ (Heap.get?_push_size _ rfl), rfl, rfl⟩ (by rw [Heap.size_push, hz]) fun b o x => Heap.get?_push_of_some _ (Heap.get?_push_of_some _ x)⟩
end
end PySem
namespace L2
open PySem PySem.Spec PyProof.Rows
theorem Inv.turnedL {X : Cx} {pins : List (Addr × Obj)} {σ : St} {H : Hp} {s : Shared} {h' : Heap} {t' : Nat} {ch : List Addr} (I : Inv X pins σ H s) (k : ∀ b o, b ∉ ch → s.heap.get? b = some o → h'.get? b = some o) (hf : ∀ b ∈ ch, FpOk X pins H b) : Inv X pins σ H { s with heap := h', toks := t' } := by
  have nit : ∀ b u, H b = some u → b ∉ ch := fun b u e z => by rw [(hf b z).1] at e; cases e
  refine I.step (g' := s.gens) (d' := s.drawn) (ch := ch) (fun b hb => ⟨(hf b hb).2.2.2.1, (hf b hb).2.1, (hf b hb).2.2.2.2.1, (hf b hb).2.2.2.2.2⟩) (fun b o _ _ hc e _ => k b o hc e) (fun b o _ _ hc e _ => ⟨o.slots, k b o hc e⟩) (fun _ _ _ _ n => n)
    (fun b o hc e => ⟨o, k b o hc e⟩) (fun _ _ e => e) (fun _ _ _ e => e) (fun b ps e => ⟨#[], by rw [e]; simp⟩) (fun m hm => ?_) (fun b u e => ?_) I.bare
  · obtain ⟨o, es, ep, ho, r⟩ := hm
    exact ⟨o, es, ep, k _ o (fun z => (hf _ z).2.1 rfl) ho, r⟩
  · refine (I.hok b u e).stay (fun c v hc q => k c v ?_ q) (fun _ q => q) fun _ _ q => q
    rcases hc with z | z
    · rw [z]; exact nit b u e
    · exact nit c _ z
def Ite (K : PySem.W.Frag) (a : Addr) : It :=
  ⟨fun i H => ∃ xs x, SqT K H a xs ∧ xs[i]? = some x, fun i H x H' => ∃ T y, x = .ref T ∧ H T = none ∧ H' = upd H T (.tup [.int i, y]) ∧ ∀ xs, SqT K H a xs → xs[i]? = some y, fun i H => ∃ xs, SqT K H a xs ∧ xs.length ≤ i⟩
theorem turn_enum {P : Program} {w : World} {K : PySem.W.Frag} {elts : List Expr} {x1 : Nat} {pos : Pos} (a e it : Addr) (hne : e ≠ it) :
    Turn P w K (.Tuple elts x1 pos) (Ite K a) [e, it] e (fun i h => (∃ old, IsEnum h e it i old) ∧ h.IsTupleIter it a i) where
  mem := by simp
  obj := fun i h st b hb => by
    obtain ⟨⟨old, he⟩, o, ho, hc, hd⟩ := st
    rcases List.mem_cons.mp hb with rfl | hb
    · exact ⟨_, he, fun v z => nomatch z⟩
    · rw [List.mem_singleton.mp hb]
      exact ⟨o, ho, fun v z => by rw [hd] at z; cases z⟩
  keep := fun i h h' st k => by
    obtain ⟨⟨old, he⟩, o, ho, r⟩ := st
    exact ⟨⟨old, k e (by simp) _ he⟩, o, k it (by simp) o ho, r⟩
  item := by
    intro X hP hw hK hc i pins s σ H E I hf st hg
    subst hP hw hK
    obtain ⟨xs, x, hq, hx⟩ := hg
    obtain ⟨its, rv, p, hz⟩ := I.tuple hq
    obtain ⟨u, hu, ru⟩ := rv.get hx
    obtain ⟨⟨old, he⟩, hit⟩ := st
    have fe := hf e (by simp)
    have fi := hf it (by simp)
    have ht : s.heap.IsTuple a its.toArray := p
    have hlt : i < its.toArray.size := by
      rw [List.size_toArray]
      exact (List.getElem?_eq_some_iff.mp hu).1
    have hai : a ≠ it := fun z => by
      obtain ⟨o, ho, h1, _⟩ := ht
      obtain ⟨o', ho', h2, _⟩ := hit
      rw [z, ho'] at ho
      cases ho
      rw [h2] at h1
      exact absurd (Value.type.inj h1) (by decide)
    have hae : e ≠ a := fun z => by
      obtain ⟨o, ho, h1, _⟩ := ht
      have he' : s.heap.get? e = _ := he
      rw [z, ho] at he'
      cases he'
      exact absurd (Value.type.inj h1) (by decide)
    refine wpAny_pyNext_enum_itemD (Draws.tupleD (by simp [I.ok.hd hc]) it a hai its.toArray) he ⟨hit, ht⟩ hlt hne (by simp only [List.mem_cons, List.not_mem_nil, or_false, not_or]; exact ⟨hne, hae⟩) fun x' h' tk hP ho hs' hT hsz hk => ?_
    have ex : x' = u := by
      rw [List.getElem?_toArray] at hP
      rw [hu] at hP
      exact (Option.some.inj hP).symm
    subst ex
    have I1 : Inv X pins σ H { s with heap := h', toks := tk + 1 } := I.turnedL (ch := [e, it]) (fun b o hb q => hk b o (fun z => hb (by simp [z])) (fun z => hb (by simp [z])) q) fun b hb => hf b hb
    refine ⟨_, rfl, wpAny_letOwnedTupleGo_enum (s := { s with heap := h', toks := tk + 1 }) ho fun h2 he2 sb => ?_⟩
    have I2 : Inv X pins σ H { s with heap := h2, toks := tk + 1 } := Inv.turnedL (s := { s with heap := h', toks := tk + 1 }) (t' := tk + 1) (ch := [e]) I1 (fun b o hb q => (sb.2 b (fun z => hb (by simp [z]))).trans q) fun b hb => by rw [List.mem_singleton.mp hb]; exact fe
    have hn : H s.heap.objs.size = none := I.hok.fresh (Nat.le_refl _)
    have fT : FpOk X pins H s.heap.objs.size := I.fpOk (Nat.le_refl _) hn
    have heT : s.heap.objs.size ≠ e := Nat.ne_of_gt (Heap.lt_size he)
    have hT2 : h2.get? s.heap.objs.size = some { cls := .type "tuple", data := .seq #[.int i tk, x'] } := (sb.2 _ heT).trans hT
    refine ⟨.ref s.heap.objs.size, upd H s.heap.objs.size (.tup [.int i, x]), I2.track fT I.sz ?_, rfl, ⟨_, x, rfl, hn, rfl, fun ys hy => by rw [I.tuple_inj hy hq]; exact hx⟩, ⟨⟨x', by simpa using he2⟩, ?_⟩, fun b hb => ?_⟩
    · exact ⟨le1000 rfl, [.int i tk, x'], .cons ⟨tk, rfl⟩ (.cons ru .nil), ⟨_, hT2, rfl, _, rfl⟩⟩
    · obtain ⟨o, ho', r⟩ := hs'.1
      exact ⟨o, (sb.2 _ (Ne.symm hne)).trans ho', r⟩
    · rcases List.mem_cons.mp hb with rfl | hb
      · rw [upd_ne (Ne.symm heT)]; exact fe.1
      · rw [List.mem_singleton.mp hb, upd_ne]
        · exact fi.1
        · obtain ⟨o, ho', _⟩ := hit
          exact Nat.ne_of_lt (Heap.lt_size ho')
  done := by
    intro X hP hw hK hc i pins s σ H E I hf st hg
    subst hP hw hK
    obtain ⟨xs, hq, hx⟩ := hg
    obtain ⟨its, rv, p, hz⟩ := I.tuple hq
    obtain ⟨⟨old, he⟩, hit⟩ := st
    have ht : s.heap.IsTuple a its.toArray := p
    have hl := rv.length
    have hT : s.TypeIs (.ref e) "enumerate" := ⟨_, he, rfl⟩
    unfold pyNext
    refine wpAny_bind (wpAny_attempt (wpAny_callSpecial?_slot (name := Str.ofString "__next__") hT F.slot_enumerate_next
      (wpAny_call_entry F.slot_enumerate_next hT F.entry_enumerate_next ?_ (F.args_enumerate_next_1 _))))
    show wpAny _ _ (field (.ref e) 2 >>= _) _ _ _
    refine wpAny_bind (wpAny_field he rfl (x := .ref it) rfl ?_)
    refine wpAny_bind (nextOf_tuple_end (by simp [I.ok.hd hc]) hit ht (by simp; omega) fun h' x he' hx' => ?_)
    obtain ⟨o, ho, hc'⟩ := hx'
    refine wpAny_bind (wpAny_isInstance (T := "StopIteration") (b := true) ⟨o, ho, hc'⟩ isSubtype_stop ?_)
    exact wpAny_pure ⟨rfl, I.turnedL (t' := s.toks) (ch := [it]) (fun b o hb q => he' b o (fun z => hb (by simp [z])) q) fun b hb => by rw [List.mem_singleton.mp hb]; exact hf it (by simp)⟩
  self := fun _ _ _ _ _ st h => by
    obtain ⟨⟨old, he⟩, _⟩ := st
    exact wpAny_pyIter_enum he h
def iEnum (K : PySem.W.Frag) (ta : TA) : TI := fun σ H R => ta σ H fun vs H1 => ∃ a, vs = [.ref a] ∧ (∃ xs, SqT K H1 a xs) ∧ R (Ite K a) H1
theorem boot_enum : bootBuiltins "enumerate" = some (.type "enumerate") := by decide +kernel
theorem pi_enum {X : Cx} {elts : List Expr} {x1 : Nat} {tpos : Pos} {a : Expr} {ta : TA} {p pos : Pos} (hg : Gl X "enumerate") (hm : X.mg "enumerate" = none) (ha : PA X [a] ta) (hpl : plainE a = true) : PI X (.Tuple elts x1 tpos) (.Call (.Name "enumerate" p) [a] [] pos) (iEnum X.K ta) := by
  intro pins s σ H R I h
  refine Call_ (ld_blt I hg hm boot_enum (PyProof.Rows.callWith_type1 (thn (ha pos pins s σ H _ I h) fun us s1 ⟨vs, H1, I1, r1, q1⟩ => ?_) (star_cons hpl) rfl))
  obtain ⟨b, e, ⟨xs, hq⟩, q⟩ := q1
  subst e
  obtain ⟨u, rfl, ru⟩ := vals1 r1
  cases (show u = Value.ref b from ru)
  obtain ⟨its, rv, pt, hz⟩ := I1.tuple hq
  refine call_enumerate_tuple (show s1.heap.IsTuple b its.toArray from pt) fun h' he hi hsz hk => ?_
  have I2 : Inv X pins σ H1 { s1 with heap := h' } := I1.kept (t' := s1.toks) hk
  refine wpAny_pyIter_enum (s := { s1 with heap := h' }) he ?_
  refine ⟨s1.heap.objs.size + 1, [s1.heap.objs.size + 1, s1.heap.objs.size], _, _, H1, rfl, I2, turn_enum b _ _ (Nat.succ_ne_self _), ⟨⟨.none, he⟩, hi⟩, fun c hc => ?_, q⟩
  rcases List.mem_cons.mp hc with rfl | hc
  · exact I1.fpOk (Nat.le_succ _) (I1.hok.fresh (Nat.le_succ _))
  · rw [List.mem_singleton.mp hc]
    exact I1.fpOk (Nat.le_refl _) (I1.hok.fresh (Nat.le_refl _))
def tLCE (K : PySem.W.Frag) (bs : List (Option Nat)) (ta : TA) (g : TG) (tt : TT) (te : TE) : TE := fun σ H Q => ta σ H fun vs H1 => ∃ a xs, vs = [.ref a] ∧ SqT K H1 a xs ∧ xs.length ≤ 100000 ∧ ∃ Pv : Nat → List V → St → Hp → Prop, Pv 0 [] (bst bs σ) H1 ∧
  (∀ i ys σ H, i ≤ xs.length → Pv i ys σ H → SqT K H a xs ∧ ys.length ≤ i) ∧
  (∀ i x ys σ H, xs[i]? = some x → Pv i ys σ H → ∀ T H2, Same H H2 → H2 T = some (.tup [.int i, x]) → g (.ref T) σ H2 fun σ3 H3 => tt σ3 H3 fun b H4 => if b = true then te σ3 H4 fun v H5 => Pv (i + 1) (ys ++ [v]) σ3 H5 else Pv (i + 1) ys σ3 H4) ∧
  ∀ ys σ H, Pv xs.length ys σ H → ∀ p H', Same H H' → H' p = some (.lst ys) → Q (.ref p) H'
theorem pe_lcE {X : Cx} {scope : Scope} {cl : List (Str × Addr)} {N : List Str} {bs : List (Option Nat)} {elts : List Expr} {x1 : Nat} {tpos : Pos} {a elt : Expr} {ifs : List Expr} {p pos' pos : Pos} {ta : TA} {g : TG} {tt : TT} {te : TE} (B : Blk X scope cl N bs) (hc : X.calm = true)
    (hgl : Gl X "enumerate") (hmr : X.mg "enumerate" = none) (ha : PA X [a] ta) (hm : MonoA ta) (hpl : plainE a = true) (hg : ∀ C fp s H, PG (cxBlk X scope cl C N fp s H) (.Tuple elts x1 tpos) g) (ht : ∀ C fp s H, PTs (cxBlk X scope cl C N fp s H) ifs tt) (he : ∀ C fp s H, PE (cxBlk X scope cl C N fp s H) elt te)
    (hs : ∀ x, foldedSetIterable (.Call (.Name "enumerate" p) [a] [] pos') X.env x = pure x := by intro _; rfl) : PE X (.ListComp elt [⟨.Tuple elts x1 tpos, .Call (.Name "enumerate" p) [a] [] pos', ifs, 0⟩] scope pos) (tLCE X.K bs ta g tt te) := by
  intro pins s σ H Q I h
  refine @pe_lc X scope cl N bs _ _ elt ifs pos (iEnum X.K ta) g tt te B hc (@pi_enum X elts x1 tpos a ta p pos' hgl hmr ha hpl) hg ht he hs pins s σ H Q I ?_
  refine hm σ H _ _ (fun vs H1 h => ?_) h
  obtain ⟨a, xs, e, hS, hz, Pv, p0, pl, ps, pd⟩ := h
  refine ⟨a, e, ⟨xs, hS⟩, fun i m ys σ H => m = xs.length - i ∧ i ≤ xs.length ∧ Pv i ys σ H, ⟨xs.length, by simp, Nat.zero_le _, p0⟩, ?_⟩
  rintro i m ys σ H ⟨rfl, hi, pv'⟩
  obtain ⟨q, ql⟩ := pl i ys σ H hi pv'
  have hz' := leMil hz
  by_cases hlt : i < xs.length
  · refine .inr ⟨⟨xs, xs[i], q, by simp [hlt]⟩, by omega, Pv (i + 1), fun zs σ' H' p' => ⟨xs.length - (i + 1), by omega, rfl, hlt, p'⟩, fun x H' y => ?_⟩
    obtain ⟨T, y', rfl, hT, rfl, hy⟩ := y
    exact ps i y' ys σ H (hy xs q) pv' T _ (same_add hT) upd_same
  · have e : i = xs.length := by omega
    subst e
    exact .inl ⟨⟨xs, q, Nat.le_refl _⟩, by omega, fun p hpn => pd ys σ H pv' p _ (same_add hpn) upd_same⟩
end L2
set_option linter.all false
set_option maxRecDepth 100000
namespace SetT
open PySem PySem.SetTable
def adv (mask : Nat) (p : Probe) : Probe :=
  if p.more > 0 then { p with j := p.j + 1, more := p.more - 1 } else
  { p with j := (leap mask p.i p.perturb).1, more := runEnd mask (leap mask p.i p.perturb).1 - (leap mask p.i p.perturb).1, i := (leap mask p.i p.perturb).1, perturb := (leap mask p.i p.perturb).2 }
def st0 (mask : Nat) (b : Nat) : Probe := { j := b % (mask + 1), more := runEnd mask (b % (mask + 1)) - b % (mask + 1), i := b % (mask + 1), perturb := b, dummy := none }
def stk (mask b : Nat) : Nat → Probe
  | 0 => st0 mask b
  | k + 1 => adv mask (stk mask b k)
def pos (mask b k : Nat) : Nat := (stk mask b k).j
def fL (mask x : Nat) : Nat := (x * 5 + 1) % (mask + 1)
def itF (mask x : Nat) : Nat → Nat
  | 0 => x
  | n + 1 => fL mask (itF mask x n)
def orbit (mask x : Nat) : Nat → List Nat
  | 0 => []
  | n + 1 => x :: orbit mask (fL mask x) n
def fullB (mask : Nat) : Bool := (List.range (mask + 1)).all (fun z => (orbit mask 0 (mask + 1)).contains z) && (itF mask 0 (mask + 1) == 0)
theorem full7 : fullB 7 = true := by decide +kernel
theorem full31 : fullB 31 = true := by decide +kernel
theorem full127 : fullB 127 = true := by decide +kernel
theorem full511 : fullB 511 = true := by decide +kernel
def Rise (xs : Array Nat) : Prop := ∀ i j, i < j → j < xs.size → xs.getD i 0 < xs.getD j 0
end SetT
set_option linter.all false
set_option maxRecDepth 100000
namespace SetT
open PySem PySem.SetTable
structure SetOk (t : SetTable) (es : Array (Int × Value)) : Prop where
  full : fullB t.mask = true
  odd : t.mask % 2 = 1
  nod : t.dummies = #[]
  rise : Rise t.place
  le : ∀ (i v : Nat), t.place[i]? = some v → v < t.mask + 1
  size : t.place.size = es.size
  path : ∀ (i v : Nat) (e : Int × Value), t.place[i]? = some v → es[i]? = some e → ∃ k, pos t.mask (bits e.1) k = v ∧ ∀ k', k' < k → ∃ i' : Nat, t.place[i']? = some (pos t.mask (bits e.1) k')
variable {t : SetTable} {es : Array (Int × Value)}
end SetT
set_option linter.all false
set_option maxRecDepth 100000
namespace SetT
open PySem PySem.SetTable
def Occ (owner : Array (Option Nat)) (j : Nat) : Prop := (owner.getD j (some 0)).isNone = false
structure LayOk (mask : Nat) (hs : List Int) (owner : Array (Option Nat)) (k : Nat) : Prop where
  size : owner.size = mask + 1
  cnt : owner.toList.countP (·.isNone) + k = mask + 1
  lt : ∀ (j m : Nat), owner[j]? = some (some m) → m < k
  has : ∀ m, m < k → ∃ j : Nat, owner[j]? = some (some m)
  path : ∀ (j m : Nat) (h : Int), owner[j]? = some (some m) → hs[m]? = some h → ∃ kk, pos mask (bits h) kk = j ∧ ∀ k', k' < kk → Occ owner (pos mask (bits h) k')
end SetT
set_option Elab.async false
set_option linter.all false
set_option maxRecDepth 100000
set_option maxHeartbeats 4000000
namespace SetT
open PySem PySem.SetTable PySem.Spec PyProof.Rows
variable {prog : Program} {w : World} {N : Addr → Prop} {A : Around} {E : Value → Shared → Prop} {s : Shared}
abbrev IsP (prog : Program) (w : World) (h : Heap) (k : List Int) (b : Addr) : Prop := IsTupleKey (intKind prog w) h k b
abbrev hk (prog : Program) (w : World) (k : List Int) : Int := (tupleKind (intKind prog w)).hash k
def EntK (prog : Program) (w : World) (N : Addr → Prop) (h : Heap) (e : Int × Value) (k : List Int) : Prop := ∃ b, (e.2 = .ref b ∧ N b) ∧ IsP prog w h k b ∧ e.1 = hk prog w k
theorem EntK.inj {h : Heap} {e : Int × Value} {k k' : List Int} (x : EntK prog w N h e k) (y : EntK prog w N h e k') : k = k' := by
  obtain ⟨b, ⟨e1, _⟩, p, _⟩ := x
  obtain ⟨b', ⟨e2, _⟩, p', _⟩ := y
  rw [e1] at e2
  cases e2
  exact p.inj p'
end SetT
set_option Elab.async false
set_option linter.all false
set_option maxRecDepth 100000
set_option maxHeartbeats 4000000
namespace SetT
open PySem PySem.SetTable PySem.Spec PyProof.Rows
variable {prog : Program} {w : World} {N : Addr → Prop} {A : Around} {E : Value → Shared → Prop} {s : Shared}
end SetT
set_option Elab.async false
set_option linter.all false
set_option maxRecDepth 100000
set_option maxHeartbeats 4000000
namespace SetT
open PySem PySem.SetTable PySem.Spec PyProof.Rows
variable {prog : Program} {w : World} {N : Addr → Prop} {A : Around} {E : Value → Shared → Prop} {s : Shared}
def Mk (m : Nat) : Prop := m = 7 ∨ m = 31 ∨ m = 127 ∨ m = 511
theorem Mk.full {m : Nat} (h : Mk m) : fullB m = true ∧ m % 2 = 1 := by
  rcases h with rfl | rfl | rfl | rfl
  · exact ⟨full7, rfl⟩
  · exact ⟨full31, rfl⟩
  · exact ⟨full127, rfl⟩
  · exact ⟨full511, rfl⟩
end SetT
set_option Elab.async false
set_option linter.all false
set_option maxRecDepth 100000
set_option maxHeartbeats 4000000
namespace SetT
open PySem PySem.SetTable PySem.Spec PyProof.Rows
variable {prog : Program} {w : World} {A : Around} {E : Value → Shared → Prop} {s : Shared}
end SetT
set_option Elab.async false
set_option linter.all false
set_option maxRecDepth 100000
set_option maxHeartbeats 4000000
namespace PySem
open Sem (wp)
open PyProof.Rows
section
variable {prog : Program} {w : World} {A : Around} {R : Result → Shared → Prop} {I : Addr} {fp wr : List Addr} {n : Nat} {P : Nat → Value → Prop} {St : Nat → Heap → Prop} {d : Value}
theorem maxD_loop (W : Walks prog w A.in1 I fp wr n P St) (bt : Nat → Nat → Bool) (hcmp : CmpOf prog w A.in1 .Gt P bt) (S : Addr) (hSf : S ∉ fp) :
    ∀ (k j : Nat) (s : Shared) (vb : Value) (c : Nat), n - (j + 1) = k → j + 1 ≤ n → St (j + 1) s.heap → P (argBest bt j) vb →
    s.heap.get? S = some { cls := .type "list", dict := none, data := .seq #[vb, vb] c, slots := #[] } →
    (∀ v h' tk, P (argBest bt (n - 1)) v → (∀ b o, b ∉ wr → b ≠ S → s.heap.get? b = some o → h'.get? b = some o) → R (.ok (.ret v)) { s with heap := h', toks := tk }) →
    codeAny (model prog w) A (.builtin "max.loop" ⟨[.ref I, .none, .ref S], [("default", d)]⟩) R s := by
  have hSw : S ∉ wr := fun h => hSf (W.sub _ h)
  have hname : (toString "max" ++ toString ".loop" : String) = "max.loop" := by decide
  intro k
  induction k with
  | zero =>
    intro j s vb c hk hj hst hPb hS hR
    have hin : j + 1 = n := by omega
    refine codeAny_builtin F.entry_max_loop ?_
    rw [Around.under_plainId F.plain_max_loop _]
    show wpAny _ A.in1 (seqItems? (.ref S) >>= _) _ _ s
    refine wpAny_bind (wpAny_seqItems hS rfl ?_)
    show wpAny _ A.in1 (tryCatch (pyNext (.ref I)) _ >>= _) _ _ s
    refine wpAny_bind (wpAny_tryCatch (W.done s _ _ (hin ▸ hst) fun h' tk hk' => ?_))
    have hS' := hk' S _ hSw hS
    show wpAny _ A.in1 (updateSeq S (fun _ => #[]) >>= _) _ _ _
    refine wpAny_bind ?_
    refine wpAny_updateSeq hS' rfl (wpAny_bind (wpAny_letGo (wpAny_pure ?_)))
    refine hR vb _ tk (by rw [← hin]; exact hPb) fun b o hbw hbS e => (Heap.get?_update_other _ _ (Ne.symm hbS)).trans (hk' b o hbw e)
  | succ k ih =>
    intro j s vb c hk hj hst hPb hS hR
    have hlt : j + 1 < n := by omega
    refine codeAny_builtin F.entry_max_loop ?_
    rw [Around.under_plainId F.plain_max_loop _]
    show wpAny _ A.in1 (seqItems? (.ref S) >>= _) _ _ s
    refine wpAny_bind (wpAny_seqItems hS rfl ?_)
    show wpAny _ A.in1 (tryCatch (pyNext (.ref I)) _ >>= _) _ _ s
    refine wpAny_bind (wpAny_tryCatch (W.item (j + 1) s _ _ hlt hst fun v h' tk hP hst' hk' => ?_))
    have hS' := hk' S _ hSw hS
    show wpAny _ A.in1 (tryCatch (holding [v, v] (richCompare .Gt v vb >>= _)) _ >>= _) _ _ _
    refine wpAny_bind (wpAny_tryCatch (wpAny_holding (wpAny_bind (hcmp (j + 1) (argBest bt j) v vb _ _ _ hP hPb ?_))))
    refine wpAny_bind (wpAny_holding (wpAny_truthy_bool ?_))
    refine wpAny_bind (wpAny_letGo (wpAny_pure ?_))
    cases hb : bt (j + 1) (argBest bt j) with
    | true =>
      simp only [if_true]
      refine wpAny_bind ?_
      refine wpAny_updateSeq hS' rfl (wpAny_bind (wpAny_letGo ?_))
      rw [hname]
      refine wpAny_pure ⟨plainId_quiet F.plain_max_loop _, ih (j + 1) _ v _ (by omega) hlt (W.frame _ _ _ hst' fun b hbf o e => ?_) (by simp only [argBest, hb, if_true]; exact hP) (Heap.get?_update_self _ hS' rfl)
        fun v' h'' tk'' hP' hk'' => ?_⟩
      · exact (Heap.get?_update_other _ _ (fun h : S = b => hSf (by rw [h]; exact hbf))).trans e
      · exact hR v' h'' tk'' hP' fun b o hbw hbS e => hk'' b o hbw hbS ((Heap.get?_update_other _ _ (Ne.symm hbS)).trans (hk' b o hbw e))
    | false =>
      simp only [Bool.false_eq_true, if_false]
      refine wpAny_bind (wpAny_letGo ?_)
      rw [hname]
      refine wpAny_pure ⟨plainId_quiet F.plain_max_loop _, ih (j + 1) _ vb c (by omega) hlt hst' (by simp only [argBest, hb, Bool.false_eq_true, if_false]; exact hPb) hS' fun v' h'' tk'' hP' hk'' => ?_⟩
      exact hR v' h'' tk'' hP' fun b o hbw hbS e => hk'' b o hbw hbS (hk' b o hbw e)
theorem maxD_first (W : Walks prog w A.in1 I fp wr n P St) (bt : Nat → Nat → Bool) (hcmp : CmpOf prog w A.in1 .Gt P bt) (S : Addr) (hSf : S ∉ fp) (hn : 0 < n) {s : Shared} {c : Nat} (hst : St 0 s.heap)
    (hS : s.heap.get? S = some { cls := .type "list", dict := none, data := .seq #[] c, slots := #[] })
    (hR : ∀ v h' tk, P (argBest bt (n - 1)) v → (∀ b o, b ∉ wr → b ≠ S → s.heap.get? b = some o → h'.get? b = some o) → R (.ok (.ret v)) { s with heap := h', toks := tk }) :
    codeAny (model prog w) A (.builtin "max.loop" ⟨[.ref I, .none, .ref S], [("default", d)]⟩) R s := by
  have hSw : S ∉ wr := fun h => hSf (W.sub _ h)
  have hname : (toString "max" ++ toString ".loop" : String) = "max.loop" := by decide
  refine codeAny_builtin F.entry_max_loop ?_
  rw [Around.under_plainId F.plain_max_loop _]
  show wpAny _ A.in1 (seqItems? (.ref S) >>= _) _ _ s
  refine wpAny_bind (wpAny_seqItems hS rfl ?_)
  show wpAny _ A.in1 (tryCatch (pyNext (.ref I)) _ >>= _) _ _ s
  refine wpAny_bind (wpAny_tryCatch (W.item 0 s _ _ hn hst fun v h' tk hP hst' hk' => ?_))
  have hS' := hk' S _ hSw hS
  show wpAny _ A.in1 (updateSeq S (fun _ => #[v, v]) >>= _) _ _ _
  refine wpAny_bind ?_
  refine wpAny_updateSeq hS' rfl ?_
  rw [hname]
  refine wpAny_pure ⟨plainId_quiet F.plain_max_loop _, maxD_loop W bt hcmp S hSf _ 0 _ v _ rfl hn (W.frame _ _ _ hst' fun b hbf o e => ?_) hP (Heap.get?_update_self _ hS' rfl) fun v' h'' tk'' hP' hk'' => ?_⟩
  · exact (Heap.get?_update_other _ _ (fun h : S = b => hSf (by rw [h]; exact hbf))).trans e
  · exact hR v' h'' tk'' hP' fun b o hbw hbS e => hk'' b o hbw hbS ((Heap.get?_update_other _ _ (Ne.symm hbS)).trans (hk' b o hbw e))
theorem maxD_empty (W : Walks prog w A.in1 I fp wr n P St) (S : Addr) (hSf : S ∉ fp) (hn : n = 0) {s : Shared} {c : Nat} (hst : St 0 s.heap)
    (hS : s.heap.get? S = some { cls := .type "list", dict := none, data := .seq #[] c, slots := #[] })
    (hR : ∀ h' tk, (∀ b o, b ∉ wr → s.heap.get? b = some o → h'.get? b = some o) → R (.ok (.ret d)) { s with heap := h', toks := tk }) :
    codeAny (model prog w) A (.builtin "max.loop" ⟨[.ref I, .none, .ref S], [("default", d)]⟩) R s := by
  subst hn
  refine codeAny_builtin F.entry_max_loop ?_
  rw [Around.under_plainId F.plain_max_loop _]
  show wpAny _ A.in1 (seqItems? (.ref S) >>= _) _ _ s
  refine wpAny_bind (wpAny_seqItems hS rfl ?_)
  show wpAny _ A.in1 (tryCatch (pyNext (.ref I)) _ >>= _) _ _ s
  refine wpAny_bind (wpAny_tryCatch (W.done s _ _ hst fun h' tk hk' => ?_))
  exact wpAny_bind (wpAny_rule (wpAny_pure (hR h' tk hk')))
end
section
variable {prog : Program} {w : World} {A : Around} {E : Value → Shared → Prop} {s : Shared}
theorem argsMaxD (a v : Value) : argsOk "max" ⟨[a], [(Str.ofString "default", v)]⟩ := by unfold argsOk; kernel_rfl
theorem call_maxD {x d : Value} {Q : Value → Shared → Prop}
    (h : wpAny (model prog w) A.in1 (pyIter x) (fun it s₂ => ∃ I fp wr n P St bt, it = .ref I ∧ Walks prog w A.in1 I fp wr n P St ∧ St 0 s₂.heap ∧ (∀ b ∈ fp, b < s₂.heap.objs.size) ∧ CmpOf prog w A.in1 .Gt P bt ∧
      (n = 0 → ∀ h' tk, (∀ b o, b ∉ wr → s₂.heap.get? b = some o → h'.get? b = some o) → Q d { s₂ with heap := h', toks := tk }) ∧
      (0 < n → ∀ v h' tk, P (argBest bt (n - 1)) v → (∀ b o, b ∉ wr → s₂.heap.get? b = some o → h'.get? b = some o) → Q v { s₂ with heap := h', toks := tk })) E s) :
    wpAny (model prog w) A (call (.builtin "max") [x] [(Str.ofString "default", d)]) Q E s := by
  have hname : (toString "max" ++ toString ".loop" : String) = "max.loop" := by decide
  refine kmk_tree F.kind_max F.plain_max F.entry_max (argsMaxD _ _) ?_
  show wpAny _ A.in1 (Builtin.Builtins.bindParams "max" ["key", "default"] 0 ⟨[], [(Str.ofString "default", d)]⟩ >>= _) _ _ s
  refine wpAny_bind (wpAny_of_eq (show Builtin.Builtins.bindParams "max" ["key", "default"] 0 ⟨[], [(Str.ofString "default", d)]⟩ = pure [none, some d] from rfl) ?_)
  refine wpAny_bind (wpAny_pure ?_)
  refine wpAny_bind (wpAny_mono h (fun it s₂ h₂ => ?_) fun _ _ e => e)
  obtain ⟨I, fp, wr, n, P, St, bt, rfl, W, hst, hfp, hcmp, h0, hQ⟩ := h₂
  refine wpAny_bind (wpAny_newObj_type ?_)
  have hSf : s₂.heap.objs.size ∉ fp := fun hm => Nat.lt_irrefl _ (hfp _ hm)
  rw [hname]
  rcases Nat.eq_zero_or_pos n with hn | hn
  · refine wpAny_pure ⟨plainId_quiet F.plain_max_loop _, maxD_empty W s₂.heap.objs.size hSf hn (W.frame _ _ _ hst fun b _ o e => Heap.get?_push_of_some _ e) (Heap.get?_push_size _ rfl) fun h' tk hk => ?_⟩
    exact h0 hn h' tk fun b o hbw e => hk b o hbw (Heap.get?_push_of_some _ e)
  · refine wpAny_pure ⟨plainId_quiet F.plain_max_loop _, maxD_first W bt hcmp s₂.heap.objs.size hSf hn (W.frame _ _ _ hst fun b _ o e => Heap.get?_push_of_some _ e) (Heap.get?_push_size _ rfl) fun v h' tk hP hk => ?_⟩
    exact hQ hn v h' tk hP fun b o hbw e => hk b o hbw (Nat.ne_of_lt (Heap.lt_size e)) (Heap.get?_push_of_some _ e)
end
end PySem
namespace L2
open PySem PySem.Spec PyProof.Rows
def tMaxD (K : PySem.W.Frag) (d : Int) (ta : TE) : TE := fun σ H Q => ta σ H fun x H1 => ∃ p, ∃ ns : List Int, x = .ref p ∧ SqL K H1 p (ns.map V.int) ∧ ∀ M, ((ns = [] ∧ M = d) ∨ (M ∈ ns ∧ ∀ a ∈ ns, a ≤ M)) → Q (.int M) H1
theorem boot_max : bootBuiltins "max" = some (.builtin "max") := by decide +kernel
theorem pe_maxD {X : Cx} {a ed : Expr} {ta : TE} {d : Int} {p pos kpos : Pos} (hc : X.calm = true) (ha : PE X a ta) (hd : PE X ed (tC (.int d))) (hg : Gl X "max" := by rfl) (hm : X.mg "max" = none := by rfl) (hs : starEach [a] X.env = [(false, eval a X.env)] := by rfl) :
    PE X (.Call (.Name "max" p) [a] [⟨some "default", ed, kpos⟩] pos) (tMaxD X.K d ta) := by
  intro pins s σ H Q I h
  refine wpAny_Call_Name_kw (ld_blt I hg hm boot_max ?_)
  refine callWith_kw (id := "max") (thn ((pa_cons ha pa_nil hs : PA X [a] (tCons ta tNil)) pos pins s σ H (only1 fun x H1 => ∃ p, ∃ ns : List Int, x = .ref p ∧ SqL X.K H1 p (ns.map V.int) ∧ ∀ M, ((ns = [] ∧ M = d) ∨ (M ∈ ns ∧ ∀ a ∈ ns, a ≤ M)) → Q (.int M) H1) I h) fun us s1 ⟨vs, H1, I1, r1, q1⟩ => ?_) (by rw [hs]; rfl) (by rw [hs]; rfl)
  obtain ⟨x1, rfl, q1⟩ := only1_of q1
  obtain ⟨u1, rfl, ru⟩ := vals1 r1
  obtain ⟨l, ns, rfl, hp, q⟩ := q1
  cases ru
  show wpAny _ _ (evalAll [(do let v ← eval ed X.env; standAt pos; pure v)]) _ _ s1
  refine wpAny_evalAll_cons (wpAny_bind (thn (hd pins s1 σ H1 (fun v H2 => v = .int d ∧ H2 = H1) I1 ⟨rfl, rfl⟩) fun ud s2 ⟨v2, H2, I2, r2, e1, e2⟩ => wpAny_bind (wpAny_standAt (wpAny_pure (wpAny_evalAll_nil ?_)))))
  subst e1 e2
  obtain ⟨td, rfl⟩ := r2
  show wpAny _ _ (call (.builtin "max") [.ref l] [(Str.ofString "default", .int d td)]) _ _ s2
  obtain ⟨vs, rv, pl, hz⟩ := I2.list hp
  have hl := pl.isList
  have hlt : l < s2.heap.objs.size := by obtain ⟨_, e, _⟩ := hl; exact Heap.lt_size e
  have hlen : vs.length = ns.length := by have := rv.length; simpa using this.symm
  have hval : ∀ i v, vs.toArray[i]? = some v → ∃ t, v = Value.int (ns.getD i 0) t := by
    intro i v e
    have e' : vs[i]? = some v := by simpa using e
    have hi : i < ns.length := by rw [← hlen]; exact (List.getElem?_eq_some_iff.mp e').1
    obtain ⟨u, e2, r2⟩ := rv.get (i := i) (x := .int ns[i]) (by rw [List.getElem?_map, List.getElem?_eq_getElem hi]; rfl)
    rw [e'] at e2
    cases e2
    obtain ⟨t, rfl⟩ := r2
    exact ⟨t, by rw [List.getD_eq_getElem?_getD, List.getElem?_eq_getElem hi]; rfl⟩
  have keep : ∀ (it : Obj) (h' : Heap), (∀ b o, b ∉ [s2.heap.objs.size] → (s2.heap.push it).get? b = some o → h'.get? b = some o) → ∀ b o, s2.heap.get? b = some o → h'.get? b = some o := fun it h' hk b o e2 => hk b o (fun hm => by
    rw [List.mem_singleton.mp hm] at e2
    exact Nat.lt_irrefl _ (Heap.lt_size e2)) (Heap.get?_push_of_some _ e2)
  refine call_maxD (wpAny_pyIter_list hl ?_)
  refine ⟨s2.heap.objs.size, [s2.heap.objs.size, l], [s2.heap.objs.size], _, _, _, _, rfl, Walks.list (A := X.A.in1) (I2.ok.hd hc) _ l (Nat.ne_of_lt hlt) vs.toArray, ⟨⟨_, Heap.get?_push_size _ rfl, rfl, rfl⟩, hl.push _⟩, fun b hb => ?_, CmpOf.ints_gt (fun i => ns.getD i 0) hval, fun hn h' tk hk => ?_, fun hn v h' tk hP hk => ?_⟩
  · show b < (s2.heap.push _).objs.size
    rw [Heap.size_push]
    simp only [List.mem_cons, List.not_mem_nil, or_false] at hb
    rcases hb with rfl | rfl
    · exact Nat.lt_succ_self _
    · exact Nat.lt_succ_of_lt hlt
  · rw [List.size_toArray, hlen] at hn
    exact ⟨.int d, _, I2.kept (t' := tk) (keep _ _ hk), ⟨td, rfl⟩, q d (.inl ⟨List.length_eq_zero_iff.mp hn, rfl⟩)⟩
  · obtain ⟨t, rfl⟩ := hval _ _ hP
    obtain ⟨h1, h2⟩ := argBest_gt (fun i => ns.getD i 0) (vs.toArray.size - 1)
    rw [List.size_toArray, hlen] at h1 h2 hn
    rw [List.size_toArray, hlen]
    refine ⟨.int _, _, I2.kept (t' := tk) (keep _ _ hk), ⟨t, rfl⟩, q _ (.inr ⟨?_, fun a ha => ?_⟩)⟩
    · have hlt : argBest (fun i j => decide (ns.getD i 0 > ns.getD j 0)) (ns.length - 1) < ns.length := by omega
      rw [List.getD_eq_getElem?_getD, List.getElem?_eq_getElem hlt]
      exact List.getElem_mem hlt
    · obtain ⟨j, hj, rfl⟩ := List.getElem_of_mem ha
      have := h2 j (by omega)
      rw [List.getD_eq_getElem?_getD (i := j), List.getElem?_eq_getElem hj] at this
      exact this
end L2
set_option Elab.async false
set_option linter.all false
set_option maxRecDepth 100000
set_option maxHeartbeats 4000000
namespace L2
open PySem PySem.Spec PyProof.Rows
section
variable {X : Cx}
def gGetL : V → V → Hp → VK → Prop := fun o i H Q => ∃ p xs, ∃ k : Nat, ∃ v, o = .ref p ∧ i = .int (k : Int) ∧ H p = some (.lst xs) ∧ xs[k]? = some v ∧ Q v H
theorem get_list : PGet X gGetL := by
  intro pins s σ H o i ov iv Q I ro ri h
  obtain ⟨p, xs, k, v, rfl, rfl, hp, hv, q⟩ := h
  cases (show ov = Value.ref p from ro)
  obtain ⟨t, rfl⟩ := ri
  obtain ⟨its, r, pl, hz⟩ := I.list (SqL.of (K := X.K) hp)
  obtain ⟨w, ew, rw'⟩ := r.get hv
  have hk : k < xs.length := (List.getElem?_eq_some_iff.mp hv).1
  have hn := line63
  exact wpAny_getItem_list pl.isList (Int.natCast_nonneg k) (by omega) (by rw [Int.toNat_natCast]; simpa using ew) ⟨v, H, I, rw', q⟩
def rSetN : V → V → V → Hp → (Hp → Prop) → Prop := fun o i v H Q => ∃ p xs, ∃ k : Nat, o = .ref p ∧ i = .int (k : Int) ∧ H p = some (.lst xs) ∧ k < xs.length ∧ Q (upd H p (.lst (xs.set k v)))
theorem set_listN : PSet X rSetN := by
  intro pins s σ H o i v ov iv u Q I ro ri rv h
  obtain ⟨p, xs, k, e1, e2, hp, hk, q⟩ := h
  refine set_list pins s σ H o i v ov iv u Q I ro ri rv ⟨p, xs, k, k, e1, e2, hp, ?_, q⟩
  unfold ixN
  rw [if_pos (Int.natCast_nonneg k), if_pos (by omega), Int.toNat_natCast]
end
end L2
set_option Elab.async false
set_option linter.all false
set_option maxRecDepth 100000
set_option maxHeartbeats 4000000
set_option Elab.async false
set_option linter.all false
set_option maxRecDepth 100000
set_option maxHeartbeats 4000000
set_option Elab.async false
set_option linter.all false
set_option maxRecDepth 100000
set_option maxHeartbeats 4000000
namespace L2
open PySem PySem.Spec PyProof.Rows
section
variable {X : Cx}
theorem ints_of {ns : List Int} : ∀ {us : List Value}, Vals (ns.map V.int) us → IntsAre us ns := by
  induction ns with
  | nil => intro us r; cases r; exact .nil
  | cons k ks ih =>
    intro us r
    cases r with
    | cons h t =>
      obtain ⟨tk, rfl⟩ := h
      exact .cons _ _ (ih t)
end
end L2
set_option Elab.async false
set_option linter.all false
set_option maxRecDepth 100000
set_option maxHeartbeats 4000000
namespace L2
open PySem PySem.Spec PyProof.Rows PySem.SeqAt
def Atom : V → Prop
  | .non => True
  | .bl _ => True
  | .int _ => True
  | .str _ => True
  | _ => False
def Sam (K : PySem.W.Frag) (H : Hp) : Nat → V → V → Prop
  | 0, x, y => x = y ∧ Atom x
  | d + 1, x, y => (x = y ∧ Atom x) ∨ ∃ a b xs ys, x = .ref a ∧ y = .ref b ∧ ((SqT K H a xs ∧ SqT K H b ys) ∨ (SqL K H a xs ∧ SqL K H b ys)) ∧ xs.length = ys.length ∧ ∀ (i : Nat) u v, xs[i]? = some u → ys[i]? = some v → Sam K H d u v
section
variable {X : Cx}
theorem atom_eq {A : Around} {s : Shared} {x : V} {u v : Value} (h : Atom x) (ru : RelV x u) (rv : RelV x v) : EqAt A s u v true := by
  cases x with
  | non => cases (show u = Value.none from ru); cases (show v = Value.none from rv); exact EqAt.same _
  | bl b => cases (show u = Value.bool b from ru); cases (show v = Value.bool b from rv); exact EqAt.same _
  | int i =>
    obtain ⟨t, rfl⟩ := ru
    obtain ⟨t', rfl⟩ := rv
    have e := EqAt.int_int (A := A) (s := s) i t i t'
    rw [beq_self_eq_true] at e
    exact e
  | str i =>
    obtain ⟨t, rfl⟩ := ru
    obtain ⟨t', rfl⟩ := rv
    have e := (eqGives_str i i t t').at A s
    rw [beq_self_eq_true] at e
    exact e
  | _ => exact h.elim
theorem all_true (n : Nat) : (List.range n).all (fun _ => true) = true := by simp
theorem sam_eq {pins : List (Addr × Obj)} {σ : St} {H : Hp} {s : Shared} (I : Inv X pins σ H s) : ∀ (d : Nat) (A : Around) (x y : V) (u v : Value), A.units + d < cLine → Sam X.K H d x y → RelV x u → RelV y v → EqAt A s u v true
  | 0, A, x, y, u, v, hu, h, ru, rv => by
    obtain ⟨rfl, h⟩ := h
    exact atom_eq h ru rv
  | d + 1, A, x, y, u, v, hu, h, ru, rv => by
    rcases h with ⟨rfl, h⟩ | ⟨a, b, xs, ys, rfl, rfl, h, hl, hk⟩
    · exact atom_eq h ru rv
    cases (show u = Value.ref a from ru)
    cases (show v = Value.ref b from rv)
    by_cases hab : a = b
    · subst hab
      exact EqAt.same _
    refine EqAt.of_refs hab ?_
    rcases h with ⟨ha, hb⟩ | ⟨ha, hb⟩
    · obtain ⟨vs, rvs, pa, _⟩ := I.tuple ha
      obtain ⟨ws, rws, pb, _⟩ := I.tuple hb
      have l1 := rvs.length
      have l2 := rws.length
      have e := RcAt.tuples (A := A) (s := s) (e := fun _ => true) pa pb (by omega) (fun j h1 h2 => ?_)
      · rw [all_true] at e
        have : (vs.toArray.size == ws.toArray.size) = true := by simp; omega
        rw [this] at e
        exact e
      · simp only [List.size_toArray] at h1 h2
        obtain ⟨x1, e1, r1⟩ := rvs.get (List.getElem?_eq_getElem (l := xs) (i := j) (by omega))
        obtain ⟨y1, e2, r2⟩ := rws.get (List.getElem?_eq_getElem (l := ys) (i := j) (by omega))
        have g1 : vs[j] = x1 := by rw [List.getElem?_eq_getElem h1] at e1; exact Option.some.inj e1
        have g2 : ws[j] = y1 := by rw [List.getElem?_eq_getElem h2] at e2; exact Option.some.inj e2
        have g := sam_eq I d A.in1 _ _ x1 y1 (by show A.units + 1 + d < cLine; omega) (hk j _ _ (List.getElem?_eq_getElem (by omega)) (List.getElem?_eq_getElem (by omega))) r1 r2
        simp only [List.getElem_toArray, g1, g2]
        exact g
    · obtain ⟨vs, rvs, pa, _⟩ := I.list ha
      obtain ⟨ws, rws, pb, _⟩ := I.list hb
      have l1 := rvs.length
      have l2 := rws.length
      have e := RcAt.lists (A := A) (s := s) (e := fun _ => true) pa.isList pb.isList (by simp; omega) (by omega) (fun j h1 h2 => ?_)
      · rw [all_true] at e
        exact e
      · simp only [List.size_toArray] at h1 h2
        obtain ⟨x1, e1, r1⟩ := rvs.get (List.getElem?_eq_getElem (l := xs) (i := j) (by omega))
        obtain ⟨y1, e2, r2⟩ := rws.get (List.getElem?_eq_getElem (l := ys) (i := j) (by omega))
        have g1 : vs[j] = x1 := by rw [List.getElem?_eq_getElem h1] at e1; exact Option.some.inj e1
        have g2 : ws[j] = y1 := by rw [List.getElem?_eq_getElem h2] at e2; exact Option.some.inj e2
        have g := sam_eq I d A.in1 _ _ x1 y1 (by show A.units + 1 + d < cLine; omega) (hk j _ _ (List.getElem?_eq_getElem (by omega)) (List.getElem?_eq_getElem (by omega))) r1 r2
        simp only [List.getElem_toArray, g1, g2]
        exact g
def rNeD (K : PySem.W.Frag) (b : Bool) : R2 := fun x y H Q => ∃ (p q : Addr) (xs ys : List V), x = .ref p ∧ y = .ref q ∧ ((SqT K H p xs ∧ SqT K H q ys) ∨ (SqL K H p xs ∧ SqL K H q ys)) ∧ xs.length = ys.length ∧ (∀ (i : Nat) u v, xs[i]? = some u → ys[i]? = some v → Sam K H 6 u v) ∧ Q (.bl b) H
theorem sam_items {pins : List (Addr × Obj)} {σ : St} {H : Hp} {s : Shared} (I : Inv X pins σ H s) {A : Around} (hu : A.units + 7 < cLine) {xs ys : List V} {vs ws : List Value} (rvs : Vals xs vs) (rws : Vals ys ws) (hl : xs.length = ys.length)
    (hk : ∀ (i : Nat) u v, xs[i]? = some u → ys[i]? = some v → Sam X.K H 6 u v) (j : Nat) (h1 : j < vs.toArray.size) (h2 : j < ws.toArray.size) : EqAt A.in1 s vs.toArray[j] ws.toArray[j] true := by
  have l1 := rvs.length
  have l2 := rws.length
  simp only [List.size_toArray] at h1 h2
  obtain ⟨x1, e1, r1⟩ := rvs.get (List.getElem?_eq_getElem (l := xs) (i := j) (by omega))
  obtain ⟨y1, e2, r2⟩ := rws.get (List.getElem?_eq_getElem (l := ys) (i := j) (by omega))
  have g1 : vs[j] = x1 := by rw [List.getElem?_eq_getElem h1] at e1; exact Option.some.inj e1
  have g2 : ws[j] = y1 := by rw [List.getElem?_eq_getElem h2] at e2; exact Option.some.inj e2
  have g := sam_eq I 6 A.in1 _ _ x1 y1 (by show A.units + 1 + 6 < cLine; omega) (hk j _ _ (List.getElem?_eq_getElem (by omega)) (List.getElem?_eq_getElem (by omega))) r1 r2
  simp only [List.getElem_toArray, g1, g2]
  exact g
theorem op_neD {k : Nat} (hr : Room k X.A) : OpR X (compareOp .NotEq) (rNeD X.K false) := by
  intro pins s σ H x y v u Q I rx ry h
  obtain ⟨p, q, xs, ys, rfl, rfl, h, hl, hk, hq⟩ := h
  cases (show v = Value.ref p from rx)
  cases (show u = Value.ref q from ry)
  have hun := hr.un
  show wpAny _ _ (richCompare .NotEq (.ref p) (.ref q)) _ _ s
  rcases h with ⟨ha, hb⟩ | ⟨ha, hb⟩
  · obtain ⟨vs, rvs, pa, _⟩ := I.tuple ha
    obtain ⟨ws, rws, pb, _⟩ := I.tuple hb
    have l1 := rvs.length
    have l2 := rws.length
    refine RcNeAt.tuples (A := X.A) (s := s) (e := fun _ => true) pa pb (by omega) (sam_items I (by omega) rvs rws hl hk) _ _ _ _ ?_
    have e2 : (vs.toArray.size == ws.toArray.size) = true := by simp; omega
    rw [all_true, e2]
    exact ⟨.bl _, H, I, rfl, hq⟩
  · obtain ⟨vs, rvs, pa, _⟩ := I.list ha
    obtain ⟨ws, rws, pb, _⟩ := I.list hb
    have l1 := rvs.length
    have l2 := rws.length
    refine RcNeAt.lists (A := X.A) (s := s) (e := fun _ => true) pa.isList pb.isList (by simp; omega) (by omega) (sam_items I (by omega) rvs rws hl hk) _ _ _ _ ?_
    rw [all_true]
    exact ⟨.bl _, H, I, rfl, hq⟩
theorem op_eqD {k : Nat} (hr : Room k X.A) : OpR X (compareOp .Eq) (rNeD X.K true) := by
  intro pins s σ H x y v u Q I rx ry h
  obtain ⟨p, q, xs, ys, rfl, rfl, h, hl, hk, hq⟩ := h
  cases (show v = Value.ref p from rx)
  cases (show u = Value.ref q from ry)
  have hun := hr.un
  show wpAny _ _ (richCompare .Eq (.ref p) (.ref q)) _ _ s
  rcases h with ⟨ha, hb⟩ | ⟨ha, hb⟩
  · obtain ⟨vs, rvs, pa, _⟩ := I.tuple ha
    obtain ⟨ws, rws, pb, _⟩ := I.tuple hb
    have l1 := rvs.length
    have l2 := rws.length
    refine RcAt.tuples (A := X.A) (s := s) (e := fun _ => true) pa pb (by omega) (sam_items I (by omega) rvs rws hl hk) _ _ _ _ ?_
    have e2 : (vs.toArray.size == ws.toArray.size) = true := by simp; omega
    rw [all_true, e2]
    exact ⟨.bl _, H, I, rfl, hq⟩
  · obtain ⟨vs, rvs, pa, _⟩ := I.list ha
    obtain ⟨ws, rws, pb, _⟩ := I.list hb
    have l1 := rvs.length
    have l2 := rws.length
    refine RcAt.lists (A := X.A) (s := s) (e := fun _ => true) pa.isList pb.isList (by simp; omega) (by omega) (sam_items I (by omega) rvs rws hl hk) _ _ _ _ ?_
    rw [all_true]
    exact ⟨.bl _, H, I, rfl, hq⟩
end
end L2
set_option Elab.async false
set_option linter.all false
set_option maxRecDepth 100000
namespace L2
open PySem PySem.Spec PyProof.Rows
section
variable {κ : Type} [DecidableEq κ]
def valV (kvs : List (κ × V)) (k : κ) : Option V := (kvs.find? fun kv => decide (kv.1 = k)).map (·.2)
def putK (kvs : List (κ × V)) (k : κ) (v : V) : List (κ × V) :=
  if (kvs.any fun kv => decide (kv.1 = k)) = true then kvs.map (fun kv => if kv.1 = k then (kv.1, v) else kv) else kvs ++ [(k, v)]
theorem valV_pos {p : κ × V} {r : List (κ × V)} {k : κ} (e : p.1 = k) : valV (p :: r) k = some p.2 := by simp [valV, List.find?_cons, e]
theorem valV_neg {p : κ × V} {r : List (κ × V)} {k : κ} (e : ¬ p.1 = k) : valV (p :: r) k = valV r k := by simp [valV, List.find?_cons, e]
theorem valV_any (k : κ) : ∀ kvs : List (κ × V), (kvs.any fun kv => decide (kv.1 = k)) = (valV kvs k).isSome
  | [] => rfl
  | p :: r => by
    rw [List.any_cons]
    by_cases e : p.1 = k
    · simp only [valV_pos e, decide_eq_true e, Bool.true_or, Option.isSome_some]
    · rw [valV_neg e, decide_eq_false e, Bool.false_or]; exact valV_any k r
theorem valV_map (k j : κ) (y : V) : ∀ kvs : List (κ × V), valV (kvs.map fun kv => if kv.1 = k then (kv.1, y) else kv) j = (valV kvs j).map fun x => if j = k then y else x
  | [] => rfl
  | p :: r => by
    have ih := valV_map k j y r
    rw [List.map_cons]
    by_cases h : p.1 = k
    · rw [if_pos h]
      by_cases e : p.1 = j
      · rw [valV_pos (p := (p.1, y)) e, valV_pos e, Option.map_some, if_pos (e.symm.trans h)]
      · rw [valV_neg (p := (p.1, y)) e, valV_neg e, ih]
    · rw [if_neg h]
      by_cases e : p.1 = j
      · rw [valV_pos (p := p) e, valV_pos e, Option.map_some, if_neg (fun z => h (e.trans z))]
      · rw [valV_neg (p := p) e, valV_neg e, ih]
theorem valV_snoc (k j : κ) (y : V) : ∀ kvs : List (κ × V), valV kvs k = none → valV (kvs ++ [(k, y)]) j = if j = k then some y else valV kvs j
  | [], _ => by
    by_cases e : k = j
    · rw [if_pos e.symm]; exact valV_pos (p := (k, y)) e
    · rw [if_neg (fun z => e z.symm)]; exact valV_neg (p := (k, y)) e
  | p :: r, hn => by
    rw [List.cons_append]
    have hk : ¬ p.1 = k := fun z => by rw [valV_pos z] at hn; cases hn
    rw [valV_neg hk] at hn
    have ih := valV_snoc k j y r hn
    by_cases e : p.1 = j
    · rw [valV_pos e, valV_pos e, if_neg (fun z => hk (e.trans z))]
    · rw [valV_neg e, valV_neg e, ih]
theorem valV_put (kvs : List (κ × V)) (k j : κ) (y : V) : valV (putK kvs k y) j = if j = k then some y else valV kvs j := by
  unfold putK
  by_cases a : (kvs.any fun kv => decide (kv.1 = k)) = true
  · rw [if_pos a, valV_map]
    rw [valV_any] at a
    by_cases e : j = k
    · obtain ⟨x, hx⟩ := Option.isSome_iff_exists.mp a
      rw [if_pos e, e, hx, Option.map_some, if_pos rfl]
    · rw [if_neg e]
      cases valV kvs j with
      | none => rfl
      | some x => rw [Option.map_some, if_neg e]
  · rw [if_neg a]
    refine valV_snoc k j y kvs ?_
    rw [valV_any] at a
    cases q : valV kvs k with
    | none => rfl
    | some x => rw [q] at a; exact (a rfl).elim
theorem RelO.isSome_eq {o : Option V} {u : Option Value} (r : RelO o u) : o.isSome = u.isSome := by
  cases o with
  | none => cases u with
    | none => rfl
    | some _ => exact (show False from r).elim
  | some _ => cases u with
    | none => exact (show False from r).elim
    | some _ => rfl
theorem RelO.getD {o : Option V} {u : Option Value} {d : V} {d' : Value} (r : RelO o u) (rd : RelV d d') : RelV (o.getD d) (u.getD d') := by
  cases o with
  | none => cases u with
    | none => exact rd
    | some _ => exact (show False from r).elim
  | some _ => cases u with
    | none => exact (show False from r).elim
    | some _ => exact r
theorem KV.val {kvs : List (κ × V)} {vs : List (κ × Value)} (r : KV kvs vs) (k : κ) : RelO (valV kvs k) (valueAt vs k) := by
  unfold KV at r
  induction r with
  | nil => exact True.intro
  | @cons p q ps qs h t ih =>
    obtain ⟨h1, h2⟩ := h
    by_cases e : p.1 = k
    · have e' : q.1 = k := h1.symm.trans e
      have b : valueAt (q :: qs) k = some q.2 := by simp [valueAt, List.find?_cons, e']
      rw [valV_pos e, b]; exact h2
    · have e' : ¬ q.1 = k := fun z => e (h1.trans z)
      have b : valueAt (q :: qs) k = valueAt qs k := by simp [valueAt, List.find?_cons, e']
      rw [valV_neg e, b]; exact ih
theorem KV.any {kvs : List (κ × V)} {vs : List (κ × Value)} (r : KV kvs vs) (k : κ) : (kvs.any fun kv => decide (kv.1 = k)) = vs.any fun kv => decide (kv.1 = k) := by
  unfold KV at r
  induction r with
  | nil => rfl
  | cons h t ih => rw [List.any_cons, List.any_cons, ih, h.1]
theorem KV.repl {kvs : List (κ × V)} {vs : List (κ × Value)} (r : KV kvs vs) (k : κ) {y : V} {u : Value} (ry : RelV y u) :
    KV (kvs.map fun kv => if kv.1 = k then (kv.1, y) else kv) (vs.map fun kv => if kv.1 = k then (kv.1, u) else kv) := by
  unfold KV at r ⊢
  induction r with
  | nil => exact .nil
  | @cons p q ps qs h t ih =>
    rw [List.map_cons, List.map_cons]
    refine .cons ?_ ih
    obtain ⟨h1, h2⟩ := h
    by_cases e : p.1 = k
    · rw [if_pos e, if_pos (h1.symm.trans e)]; exact ⟨h1, ry⟩
    · rw [if_neg e, if_neg (fun z => e (h1.trans z))]; exact ⟨h1, h2⟩
theorem KV.put {kvs : List (κ × V)} {vs : List (κ × Value)} (r : KV kvs vs) (k : κ) {y : V} {u : Value} (ry : RelV y u) : KV (putK kvs k y) (stored vs k u) := by
  unfold putK stored
  rw [r.any k]
  by_cases e : (vs.any fun kv => decide (kv.1 = k)) = true
  · rw [if_pos e, if_pos e]; exact r.repl k ry
  · rw [if_neg e, if_neg e]; exact Paired.snoc r ⟨rfl, ry⟩
theorem KV.keys {kvs : List (κ × V)} {vs : List (κ × Value)} (r : KV kvs vs) : kvs.map (·.1) = vs.map (·.1) := by
  unfold KV at r
  induction r with
  | nil => rfl
  | cons h t ih => rw [List.map_cons, List.map_cons, ih, h.1]
theorem KV.length {kvs : List (κ × V)} {vs : List (κ × Value)} (r : KV kvs vs) : kvs.length = vs.length := Paired.length r
end
abbrev KT (H : Hp) : List (List Key × V) → List (List Key × Addr × Value) → Prop := Paired fun p q => p.1 = q.1 ∧ H q.2.1 = some (.tup (p.1.map kV)) ∧ RelV p.2 q.2.2
theorem KT.val {H : Hp} {kvs : List (List Key × V)} {xs : List (List Key × Addr × Value)} (r : KT H kvs xs) (k : List Key) : RelO (valV kvs k) ((atKey xs k).map (·.2)) := by
  induction r with
  | nil => exact True.intro
  | @cons p q ps qs h t ih =>
    obtain ⟨h1, _, h2⟩ := h
    by_cases e : p.1 = k
    · have e' : q.1 = k := h1.symm.trans e
      have b : atKey (q :: qs) k = some q.2 := by simp [atKey, List.find?_cons, e']
      rw [valV_pos e, b]; exact h2
    · have e' : ¬ q.1 = k := fun z => e (h1.trans z)
      have b : atKey (q :: qs) k = atKey qs k := by simp [atKey, List.find?_cons, e']
      rw [valV_neg e, b]; exact ih
theorem KT.repl {H : Hp} {kvs : List (List Key × V)} {xs : List (List Key × Addr × Value)} (r : KT H kvs xs) (k : List Key) {y : V} {u : Value} (ry : RelV y u) :
    KT H (kvs.map fun kv => if kv.1 = k then (kv.1, y) else kv) (xs.map (putAt k u)) := by
  induction r with
  | nil => exact .nil
  | @cons p q ps qs h t ih =>
    rw [List.map_cons, List.map_cons]
    refine .cons ?_ ih
    obtain ⟨h1, h2, h3⟩ := h
    unfold putAt
    by_cases e : p.1 = k
    · rw [if_pos e, if_pos (h1.symm.trans e)]; exact ⟨h1, h2, ry⟩
    · rw [if_neg e, if_neg (fun z => e (h1.trans z))]; exact ⟨h1, h2, h3⟩
theorem KT.put {H : Hp} {kvs : List (List Key × V)} {xs : List (List Key × Addr × Value)} (r : KT H kvs xs) (k : List Key) {b : Addr} {y : V} {u : Value} (hb : H b = some (.tup (k.map kV))) (ry : RelV y u) :
    KT H (putK kvs k y) (storedH xs k b u) := by
  have e : (kvs.any fun kv => decide (kv.1 = k)) = (atKey xs k).isSome := by
    rw [valV_any, (r.val k).isSome_eq, Option.isSome_map]
  unfold putK storedH
  rw [e]
  by_cases q : (atKey xs k).isSome = true
  · rw [if_pos q, if_pos q]; exact r.repl k ry
  · rw [if_neg q, if_neg q]; exact Paired.snoc r ⟨rfl, hb, ry⟩
theorem KT.keeps {H H' : Hp} {kvs : List (List Key × V)} {xs : List (List Key × Addr × Value)} (r : KT H kvs xs) (ht : ∀ b ys, H b = some (.tup ys) → H' b = some (.tup ys)) : KT H' kvs xs :=
  Paired.mapP r fun _ _ z => ⟨z.1, ht _ _ z.2.1, z.2.2⟩
def DGet (H : Hp) (a : Addr) (y : V) (r : Option V) : Prop :=
  (∃ kvs k, Rd H a (.dK kvs) ∧ y = kV k ∧ r = valV kvs k) ∨ ∃ kvs k b, Rd H a (.dT kvs) ∧ y = .ref b ∧ H b = some (.tup (k.map kV)) ∧ r = valV kvs k
def DPut (H : Hp) (a : Addr) (y v : V) (H' : Hp) : Prop :=
  (∃ kvs k, H a = some (.dK kvs) ∧ y = kV k ∧ kvs.length < sizeLine ∧ H' = upd H a (.dK (putK kvs k v))) ∨
  ∃ kvs k b, H a = some (.dT kvs) ∧ y = .ref b ∧ H b = some (.tup (k.map kV)) ∧ kvs.length < sizeLine ∧ H' = upd H a (.dT (putK kvs k v))
theorem DGet.k {H : Hp} {a : Addr} {kvs : List (Key × V)} {k : Key} (e : H a = some (.dK kvs)) : DGet H a (kV k) (valV kvs k) := .inl ⟨kvs, k, .inl e, rfl, rfl⟩
theorem DGet.t {H : Hp} {a b : Addr} {kvs : List (List Key × V)} {k : List Key} (e : H a = some (.dT kvs)) (eb : H b = some (.tup (k.map kV))) : DGet H a (.ref b) (valV kvs k) := .inr ⟨kvs, k, b, .inl e, rfl, eb, rfl⟩
theorem DPut.k {H : Hp} {a : Addr} {kvs : List (Key × V)} {k : Key} {v : V} (e : H a = some (.dK kvs)) (hl : kvs.length < sizeLine) : DPut H a (kV k) v (upd H a (.dK (putK kvs k v))) := .inl ⟨kvs, k, e, rfl, hl, rfl⟩
theorem DPut.t {H : Hp} {a b : Addr} {kvs : List (List Key × V)} {k : List Key} {v : V} (e : H a = some (.dT kvs)) (eb : H b = some (.tup (k.map kV))) (hl : kvs.length < sizeLine) :
    DPut H a (.ref b) v (upd H a (.dT (putK kvs k v))) := .inr ⟨kvs, k, b, e, rfl, eb, hl, rfl⟩
structure M1 (X : Cx) (o : Expr) (m : Str) (apos : Pos) (e : Expr) (cpos : Pos) : Prop where
  base : attributeBase o m X.env (eval o X.env) = eval o X.env
  few : ((backTo cpos (starEach [e] X.env)).all (fun x => !x.1) && (backToKw cpos (keywordEach [] X.env)).all (fun x => x.1.isSome)
    && decide (([e] : List Expr).length + ([] : List Keyword).length + (if ([] : List Keyword).isEmpty then 0 else 1) < 30)) = true
  line : (apos.endLine == cpos.line) = true
  trees : backTo cpos (starEach [e] X.env) = [(false, eval e X.env)]
structure M2 (X : Cx) (o : Expr) (m : Str) (apos : Pos) (e f : Expr) (cpos : Pos) : Prop where
  base : attributeBase o m X.env (eval o X.env) = eval o X.env
  few : ((backTo cpos (starEach [e, f] X.env)).all (fun x => !x.1) && (backToKw cpos (keywordEach [] X.env)).all (fun x => x.1.isSome)
    && decide (([e, f] : List Expr).length + ([] : List Keyword).length + (if ([] : List Keyword).isEmpty then 0 else 1) < 30)) = true
  line : (apos.endLine == cpos.line) = true
  trees : backTo cpos (starEach [e, f] X.env) = [(false, eval e X.env), (false, eval f X.env)]
end L2
set_option Elab.async false
set_option linter.all false
set_option maxRecDepth 100000
set_option maxHeartbeats 4000000
set_option Elab.async false
set_option linter.all false
set_option maxRecDepth 100000
set_option maxHeartbeats 4000000
set_option Elab.async false
set_option linter.all false
set_option maxRecDepth 100000
set_option maxHeartbeats 4000000
set_option Elab.async false
set_option linter.all false
set_option maxRecDepth 100000
set_option maxHeartbeats 4000000
set_option Elab.async false
set_option linter.all false
set_option maxRecDepth 100000
set_option maxHeartbeats 4000000
namespace L2
open PySem PySem.Spec PyProof.Rows
theorem same_new {H : Hp} {d : Addr} {o : HO} (h : H d = Option.none) : Same H (upd H d o) := fun b u e => by rw [upd_ne (ne_of_none e h)]; exact e
theorem Same.none {H H' : Hp} (s : Same H H') {d : Addr} (h : H' d = Option.none) : H d = Option.none := by
  cases z : H d with
  | none => rfl
  | some o => rw [s d o z] at h; cases h
theorem Same.wr {H H' : Hp} (s : Same H H') {d : Addr} {o : HO} (h : H d = Option.none) : Same H (upd H' d o) := fun b u e => by rw [upd_ne (ne_of_none e h)]; exact s b u e
end L2
namespace My
open PySem L2
theorem bLen : bootBuiltins "len" = some (.builtin "len") := by decide +kernel
theorem bIsi : bootBuiltins "isinstance" = some (.builtin "isinstance") := by decide +kernel
theorem bInt : bootBuiltins "int" = some (.type "int") := by decide +kernel
theorem bBool : bootBuiltins "bool" = some (.type "bool") := by decide +kernel
theorem bTuple : bootBuiltins "tuple" = some (.type "tuple") := by decide +kernel
theorem bList : bootBuiltins "list" = some (.type "list") := by decide +kernel
theorem bRange : bootBuiltins "range" = some (.type "range") := by decide +kernel
theorem bMax : bootBuiltins "max" = some (.builtin "max") := by decide +kernel
theorem bMin : bootBuiltins "min" = some (.builtin "min") := by decide +kernel
structure Bi (mg : Str → Option Value) : Prop where
  len : mg "len" = none
  isi : mg "isinstance" = none
  int : mg "int" = none
  bool : mg "bool" = none
  tuple : mg "tuple" = none
  list : mg "list" = none
  range : mg "range" = none
  max : mg "max" = none
  min : mg "min" = none
  zip : mg "zip" = none
  dict : mg "dict" = none
theorem kit (K : PySem.W.Frag) (T U : String) (b : Bool) (h : PySem.W.kitOne [] (.type T) (.type U) = some b) : PySem.W.kitOne K (.type T) (.type U) = some b := h
def TieOk (H : Hp) (n : Int) (t : V) : Prop := ∃ q i j, t = V.ref q ∧ H q = some (.tup [.int i, .int j]) ∧ 0 ≤ i ∧ i < n ∧ 0 ≤ j ∧ j < n ∧ i ≠ j
def Ties (H : Hp) (n : Int) (ts : List V) : Prop := ∀ t ∈ ts, TieOk H n t
theorem TieOk.same {H H' : Hp} {n : Int} {t : V} (h : TieOk H n t) (k : Same H H') : TieOk H' n t := let ⟨q, i, j, a, b, c⟩ := h; ⟨q, i, j, a, k _ _ b, c⟩
theorem Ties.same {H H' : Hp} {n : Int} {ts : List V} (h : Ties H n ts) (k : Same H H') : Ties H' n ts := fun t ht => (h t ht).same k
structure NetZ (H : Hp) (p : Addr) (n : Nat) (q : Addr) (ts : List V) (es : List (Nat × Nat)) : Prop where
  e1 : H p = some (.tup [.int (n : Int), .ref q])
  e2 : H q = some (.tup ts)
  len : ts.length = es.length
  tie : ∀ (i : Nat) t, ts[i]? = some t → ∃ a, t = V.ref a ∧ H a = some (.tup [.int ((es.getD i (0, 0)).1 : Int), .int ((es.getD i (0, 0)).2 : Int)])
  l200 : es.length ≤ 200
  n60 : n ≤ 60
  ok : ∀ e ∈ es, e.1 < n ∧ e.2 < n ∧ e.1 ≠ e.2
theorem NetZ.same {H H' : Hp} {p q : Addr} {n : Nat} {ts : List V} {es : List (Nat × Nat)} (h : NetZ H p n q ts es) (k : Same H H') : NetZ H' p n q ts es :=
  ⟨k _ _ h.e1, k _ _ h.e2, h.len, fun i t e => let ⟨a, x, y⟩ := h.tie i t e; ⟨a, x, k _ _ y⟩, h.l200, h.n60, h.ok⟩
theorem getD_mem {es : List (Nat × Nat)} {k : Nat} (h : k < es.length) : es.getD k (0, 0) ∈ es := by rw [List.getD_eq_getElem?_getD, List.getElem?_eq_getElem h]; exact List.getElem_mem h
theorem ties_es {H : Hp} {n : Int} : ∀ {ts : List V}, Ties H n ts → ∃ es : List (Nat × Nat), ts.length = es.length ∧ (∀ (i : Nat) t, ts[i]? = some t → ∃ a, t = V.ref a ∧ H a = some (.tup [.int ((es.getD i (0, 0)).1 : Int), .int ((es.getD i (0, 0)).2 : Int)])) ∧ ∀ e ∈ es, (e.1 : Int) < n ∧ (e.2 : Int) < n ∧ e.1 ≠ e.2
  | [], _ => ⟨[], rfl, (fun i t e => by rw [List.getElem?_nil] at e; cases e), fun e h => by cases h⟩
  | t :: ts, h => by
    obtain ⟨es, h1, h2, h3⟩ := ties_es (ts := ts) fun u hu => h u (.tail _ hu)
    obtain ⟨q, i, j, rfl, hq, b1, b2, b3, b4, b5⟩ := h t (.head _)
    refine ⟨(i.toNat, j.toNat) :: es, by rw [List.length_cons, List.length_cons, h1], fun k u e => ?_, fun e he => ?_⟩
    · cases k with
      | zero =>
        rw [List.getElem?_cons_zero] at e
        cases e
        refine ⟨q, rfl, ?_⟩
        show H q = some (.tup [.int ((i.toNat : Nat) : Int), .int ((j.toNat : Nat) : Int)])
        rw [Int.toNat_of_nonneg b1, Int.toNat_of_nonneg b3]
        exact hq
      | succ k =>
        rw [List.getElem?_cons_succ] at e
        obtain ⟨a, x, y⟩ := h2 k u e
        exact ⟨a, x, by rw [y]; rfl⟩
    · cases he with
      | head =>
        show ((i.toNat : Nat) : Int) < n ∧ ((j.toNat : Nat) : Int) < n ∧ i.toNat ≠ j.toNat
        omega
      | tail _ he => exact h3 e he
theorem netZ_of {H : Hp} {p q : Addr} {n m : Int} {ts : List V} (e1 : H p = some (.tup [.int m, .ref q])) (e2 : H q = some (.tup ts)) (l : ts.length ≤ 200) (hT : Ties H n ts) (h0 : 0 ≤ m) (h60 : m ≤ 60) (hnm : n ≤ m) : ∃ es, NetZ H p m.toNat q ts es := by
  obtain ⟨es, h1, h2, h3⟩ := ties_es hT
  exact ⟨es, by rw [Int.toNat_of_nonneg h0]; exact e1, e2, h1, h2, by omega, by omega, fun e he => by obtain ⟨a, b, c⟩ := h3 e he; exact ⟨by omega, by omega, c⟩⟩
def nl (l : List Nat) : List V := l.map fun x : Nat => V.int (x : Int)
theorem nl_get {l : List Nat} {i x : Nat} (h : l[i]? = some x) : (nl l)[i]? = some (.int (x : Int)) := by unfold nl; rw [List.getElem?_map, h]; rfl
theorem nl_len (l : List Nat) : (nl l).length = l.length := by unfold nl; rw [List.length_map]
def tN : Option Nat → V
  | none => .non
  | some t => .int (t : Int)
def tv (tl : List (Option Nat)) : List V := tl.map tN
end My
set_option Elab.async false
set_option linter.all false
set_option maxRecDepth 100000
set_option maxHeartbeats 4000000
namespace My
open PySem L2
def At (e : Nat × Nat) (p : Nat) : Prop := p = e.1 ∨ p = e.2
abbrev ky (a b : Nat) : List Key := [Sum.inl (a : Int), Sum.inl (b : Int)]
theorem ky_inj {a b c d : Nat} (h : ky a b = ky c d) : a = c ∧ b = d := by
  have h1 := List.cons.inj h
  have h2 := List.cons.inj h1.2
  have e1 := Sum.inl.inj h1.1
  have e2 := Sum.inl.inj h2.1
  omega
def Keys (kvs : List (List Key × V)) (R : Nat → Nat → Prop) : Prop := ∀ p t : Nat, (valV kvs (ky p t)).isSome = true ↔ R p t
theorem Keys.put {kvs : List (List Key × V)} {R : Nat → Nat → Prop} (h : Keys kvs R) (a b : Nat) (v : V) : Keys (putK kvs (ky a b) v) (fun p t => R p t ∨ (p = a ∧ t = b)) := by
  intro p t
  rw [valV_put]
  by_cases e : ky p t = ky a b
  · rw [if_pos e]
    exact ⟨fun _ => .inr (ky_inj e), fun _ => rfl⟩
  · rw [if_neg e, h p t]
    exact ⟨.inl, fun z => z.elim id fun ⟨z1, z2⟩ => absurd (by rw [z1, z2]) e⟩
end My
set_option Elab.async false
set_option linter.all false
set_option maxRecDepth 100000
set_option maxHeartbeats 4000000
namespace My
open PySem L2
def put {α : Type} (f : Nat → α) (k : Nat) (v : α) : Nat → α := fun i => if i = k then v else f i
theorem put_same {α : Type} (f : Nat → α) (k : Nat) (v : α) : put f k v k = v := by unfold put; rw [if_pos rfl]
theorem put_ne {α : Type} (f : Nat → α) {k i : Nat} (v : α) (h : i ≠ k) : put f k v i = f i := by unfold put; rw [if_neg h]
def lv (L : Nat → Nat) (n : Nat) : List V := (List.range n).map fun x : Nat => V.int (L x : Int)
theorem lv_len (L : Nat → Nat) (n : Nat) : (lv L n).length = n := by unfold lv; rw [List.length_map, List.length_range]
theorem lv_get (L : Nat → Nat) {n k : Nat} (h : k < n) : (lv L n)[k]? = some (.int (L k : Int)) := by
  unfold lv
  rw [List.getElem?_map, List.getElem?_range h]
  rfl
theorem lv_set (L : Nat → Nat) (n k v : Nat) : (lv L n).set k (.int (v : Int)) = lv (put L k v) n := by
  apply List.ext_getElem?
  intro i
  by_cases hi : i < n
  · rw [lv_get _ hi, List.getElem?_set]
    by_cases e : k = i
    · subst e
      rw [if_pos rfl, if_pos (by rw [lv_len]; exact hi), put_same]
    · rw [if_neg e, lv_get _ hi, put_ne _ _ (fun z => e z.symm)]
  · rw [List.getElem?_eq_none (by rw [List.length_set, lv_len]; omega), List.getElem?_eq_none (by rw [lv_len]; omega)]
def cnt (tl : List (Option Nat)) (t : Nat) : Nat := tl.count (some t)
end My
set_option Elab.async false
set_option linter.all false
set_option maxRecDepth 100000
set_option maxHeartbeats 4000000
namespace My
def InP (tl : List (Option Nat)) (u v k : Nat) : Prop := tl[k]? = some (some u) ∨ tl[k]? = some (some v)
inductive RP (es : List (Nat × Nat)) (tl : List (Option Nat)) (u v p : Nat) : Nat → Prop
  | start : RP es tl u v p p
  | step {x y k : Nat} : RP es tl u v p x → k < es.length → InP tl u v k → At (es.getD k (0, 0)) x → At (es.getD k (0, 0)) y → RP es tl u v p y
def RT (es : List (Nat × Nat)) (tl : List (Option Nat)) (u v p k : Nat) : Prop := k < es.length ∧ InP tl u v k ∧ ∃ x, RP es tl u v p x ∧ At (es.getD k (0, 0)) x
structure Walk (es : List (Nat × Nat)) (tl : List (Option Nat)) (u v p : Nat) (F : Nat → Prop) (V W : Nat → Prop) : Prop where
  rt : ∀ k, F k → RT es tl u v p k
  rw : ∀ x, W x → RP es tl u v p x
  cl : ∀ x, V x → ∀ k, k < es.length → InP tl u v k → At (es.getD k (0, 0)) x → F k
  en : ∀ k, F k → ∀ x, At (es.getD k (0, 0)) x → V x ∨ W x
  st : V p ∨ W p
theorem Walk.done {es : List (Nat × Nat)} {tl : List (Option Nat)} {u v p : Nat} {F V W : Nat → Prop} (h : Walk es tl u v p F V W) (hW : ∀ x, ¬ W x) : ∀ k, F k ↔ RT es tl u v p k := by
  have hV : ∀ x, RP es tl u v p x → V x := fun x hx => by
    induction hx with
    | start => exact h.st.resolve_right (hW _)
    | step _ h1 h2 h3 h4 ih => exact (h.en _ (h.cl _ ih _ h1 h2 h3) _ h4).resolve_right (hW _)
  exact fun k => ⟨h.rt k, fun ⟨a, b, x, c, d⟩ => h.cl x (hV x c) k a b d⟩
end My
set_option linter.all false
namespace My
def draw (ns : List Int) (k : Int) : Int :=
  let cell : Int := if ns.length > 0 then ns.getD (k % (ns.length : Int)).toNat 0 % 2147483629 + k / (ns.length : Int) * 7349 + 1 else 2 * k + 1
  let c2 := (cell * 48271 + k * k * 16807 + 3) % 2147483647
  c2 * c2 % 2147483629
theorem draw_nn (ns : List Int) (k : Int) : 0 ≤ draw ns k := Int.emod_nonneg _ (by decide)
theorem step_ne {a d p : Int} (h0 : 0 ≤ a) (h1 : a < p) (h2 : 1 ≤ d) (h3 : d < p) : (a + d) % p ≠ a := by
  by_cases h : a + d < p
  · rw [Int.emod_eq_of_lt (by omega) h]; omega
  · have e : (a + d) % p = a + d - p := by
      have e1 : (a + d - p) % p = (a + d) % p := by rw [Int.sub_emod_right]
      rw [← e1]
      exact Int.emod_eq_of_lt (by omega) (by omega)
    rw [e]; omega
theorem next_ne {n p : Int} (h : 2 ≤ p) : (n + 1) % p ≠ n % p := by
  have h1 := step_ne (a := n % p) (d := 1) (p := p) (Int.emod_nonneg _ (by omega)) (Int.emod_lt_of_pos _ (by omega)) (by omega) (by omega)
  rw [Int.emod_add_emod] at h1
  exact h1
theorem mod_lo {n p : Int} (h : 0 < p) : 0 ≤ n % p := Int.emod_nonneg _ (by omega)
theorem mod_hi {n p : Int} (h : 0 < p) : n % p < p := Int.emod_lt_of_pos _ h
end My
set_option Elab.async false
set_option linter.all false
set_option maxRecDepth 100000
set_option maxHeartbeats 4000000
namespace My
def atB (e : Nat × Nat) (p : Nat) : Bool := p == e.1 || p == e.2
theorem atB_iff {e : Nat × Nat} {p : Nat} : atB e p = true ↔ At e p := by
  unfold atB At
  rw [Bool.or_eq_true, beq_iff_eq, beq_iff_eq]
def dg (es : List (Nat × Nat)) (k p : Nat) : Nat := ((List.range k).filter fun j => atB (es.getD j (0, 0)) p).length
theorem dg_succ (es : List (Nat × Nat)) (k p : Nat) : dg es (k + 1) p = dg es k p + if atB (es.getD k (0, 0)) p then 1 else 0 := by
  unfold dg
  rw [List.range_succ, List.filter_append, List.length_append]
  congr 1
  rw [List.filter_cons]
  split <;> rfl
def IsMax (xs : List Int) (M : Int) : Prop := (xs = [] ∧ M = 0) ∨ (M ∈ xs ∧ ∀ a ∈ xs, a ≤ M)
theorem IsMax.uniq {xs : List Int} {M M' : Int} (h : IsMax xs M) (h' : IsMax xs M') : M = M' := by
  rcases h with ⟨e, h⟩ | ⟨h1, h2⟩ <;> rcases h' with ⟨e', h'⟩ | ⟨h1', h2'⟩
  · omega
  · rw [e] at h1'; cases h1'
  · rw [e'] at h1; cases h1
  · have := h2 _ h1'; have := h2' _ h1; omega
def dl (es : List (Nat × Nat)) (n : Nat) : List Int := (List.range n).map fun p : Nat => (dg es es.length p : Int)
theorem most_le {es : List (Nat × Nat)} {n : Nat} {M : Int} (h : IsMax (dl es n) M) {p : Nat} (hp : p < n) : (dg es es.length p : Int) ≤ M := by
  have hm : (dg es es.length p : Int) ∈ dl es n := List.mem_map.mpr ⟨p, List.mem_range.mpr hp, rfl⟩
  rcases h with ⟨e, _⟩ | ⟨_, h⟩
  · rw [e] at hm; cases hm
  · exact h _ hm
theorem dg_le (es : List (Nat × Nat)) (k p : Nat) : dg es k p ≤ k := by
  unfold dg
  exact Nat.le_trans (List.length_filter_le _ _) (by rw [List.length_range]; exact Nat.le_refl _)
theorem most_nn {es : List (Nat × Nat)} {n : Nat} {M : Int} (h : IsMax (dl es n) M) : 0 ≤ M ∧ M ≤ es.length := by
  rcases h with ⟨_, h⟩ | ⟨h, _⟩
  · omega
  · obtain ⟨p, _, rfl⟩ := List.mem_map.mp h
    have := dg_le es es.length p
    omega
theorem sub_len : ∀ {a b : List Nat}, a.Nodup → (∀ x ∈ a, x ∈ b) → a.length ≤ b.length
  | [], b, _, _ => Nat.zero_le _
  | x :: a, b, nd, h => by
    have nd' := List.nodup_cons.mp nd
    have hx : x ∈ b := h x (.head _)
    have ih := sub_len (a := a) (b := b.erase x) nd'.2 fun y hy => (List.mem_erase_of_ne (fun (z : y = x) => nd'.1 (z ▸ hy))).mpr (h y (.tail _ hy))
    rw [List.length_erase_of_mem hx] at ih
    have : 0 < b.length := List.length_pos_of_mem hx
    rw [List.length_cons]
    omega
end My
set_option Elab.async false
set_option linter.all false
set_option maxRecDepth 100000
set_option maxHeartbeats 4000000
namespace My
open PySem L2
def insd (es : List (Nat × Nat)) (s : List Nat) (k : Nat) : Nat := ((List.range k).filter fun j => decide ((es.getD j (0, 0)).1 ∈ s) && decide ((es.getD j (0, 0)).2 ∈ s)).length
theorem insd_succ (es : List (Nat × Nat)) (s : List Nat) (k : Nat) : insd es s (k + 1) = if (decide ((es.getD k (0, 0)).1 ∈ s) && decide ((es.getD k (0, 0)).2 ∈ s)) = true then insd es s k + 1 else insd es s k := by
  unfold insd
  rw [List.range_succ, List.filter_append, List.filter_cons]
  split
  · rw [List.length_append]; rfl
  · simp
theorem insd_le (es : List (Nat × Nat)) (s : List Nat) (k : Nat) : insd es s k ≤ k := by
  unfold insd
  exact Nat.le_trans (List.length_filter_le _ _) (by rw [List.length_range]; exact Nat.le_refl _)
def half (s : List Nat) : Nat := (s.length - 1) / 2
def barN (es : List (Nat × Nat)) (s : List Nat) : Nat := (insd es s es.length + half s - 1) / half s
theorem barN_congr {es : List (Nat × Nat)} {s t : List Nat} (hl : s.length = t.length) (hm : ∀ x, x ∈ s ↔ x ∈ t) : barN es s = barN es t := by
  have e1 : insd es s es.length = insd es t es.length := by
    unfold insd
    congr 1
    refine List.filter_congr fun j _ => ?_
    rw [decide_eq_decide.mpr (hm _), decide_eq_decide.mpr (hm _)]
  unfold barN half
  rw [e1, hl]
theorem bar_else {i h : Nat} (h0 : 0 < h) : (i + h - 1) / h = if i % h = 0 then i / h else i / h + 1 := by
  have e := Nat.div_add_mod i h
  have hr := Nat.mod_lt i h0
  split
  · rename_i z
    refine Nat.div_eq_of_lt_le ?_ ?_
    · rw [Nat.mul_comm]; omega
    · rw [Nat.succ_mul, Nat.mul_comm]; omega
  · rename_i z
    refine Nat.div_eq_of_lt_le ?_ ?_
    · rw [Nat.succ_mul, Nat.mul_comm]; omega
    · rw [Nat.succ_mul, Nat.succ_mul, Nat.mul_comm]; omega
def subs : Nat → List (List Nat)
  | 0 => [[]]
  | n + 1 => subs n ++ (subs n).map fun l => l ++ [n]
theorem subs_len : ∀ n, (subs n).length = 2 ^ n
  | 0 => rfl
  | n + 1 => by
    show (subs n ++ _).length = _
    rw [List.length_append, List.length_map, subs_len n, Nat.pow_succ]
    omega
theorem subs_short : ∀ n, ∀ l ∈ subs n, l.length ≤ n
  | 0, l, h => by rw [List.mem_singleton.mp h]; exact Nat.le_refl _
  | n + 1, l, h => by
    rcases List.mem_append.mp h with z | z
    · exact Nat.le_succ_of_le (subs_short n l z)
    · obtain ⟨m, hm, rfl⟩ := List.mem_map.mp z
      rw [List.length_append]
      exact Nat.succ_le_succ (subs_short n m hm)
theorem subs_rise : ∀ n, ∀ l ∈ subs n, l.Pairwise (· < ·) ∧ ∀ x ∈ l, x < n
  | 0, l, h => by rw [List.mem_singleton.mp h]; exact ⟨List.Pairwise.nil, fun x z => by cases z⟩
  | n + 1, l, h => by
    rcases List.mem_append.mp h with z | z
    · obtain ⟨a, b⟩ := subs_rise n l z
      exact ⟨a, fun x hx => Nat.lt_succ_of_lt (b x hx)⟩
    · obtain ⟨m, hm, rfl⟩ := List.mem_map.mp z
      obtain ⟨a, b⟩ := subs_rise n m hm
      refine ⟨List.pairwise_append.mpr ⟨a, List.pairwise_singleton _ _, fun x hx y hy => ?_⟩, fun x hx => ?_⟩
      · rw [List.mem_singleton.mp hy]
        exact b x hx
      · rcases List.mem_append.mp hx with z | z
        · exact Nat.lt_succ_of_lt (b x z)
        · rw [List.mem_singleton.mp z]
          exact Nat.lt_succ_self n
theorem subs_all (p : Nat → Bool) : ∀ n, (List.range n).filter p ∈ subs n
  | 0 => .head _
  | n + 1 => by
    rw [List.range_succ, List.filter_append, List.filter_cons]
    split
    · exact List.mem_append_right _ (List.mem_map.mpr ⟨_, subs_all p n, rfl⟩)
    · rw [List.filter_nil, List.append_nil]
      exact List.mem_append_left _ (subs_all p n)
def parts (n : Nat) : List (List Nat) := (subs n).filter fun l => decide (3 ≤ l.length) && decide (l.length % 2 = 1)
theorem parts_mem {n : Nat} {l : List Nat} : l ∈ parts n ↔ l ∈ subs n ∧ 3 ≤ l.length ∧ l.length % 2 = 1 := by
  unfold parts
  rw [List.mem_filter, Bool.and_eq_true, decide_eq_true_eq, decide_eq_true_eq]
theorem part_bar {es : List (Nat × Nat)} {n : Nat} {s : List Nat} (nd : s.Nodup) (hs : ∀ x ∈ s, x < n) (h3 : 3 ≤ s.length) (ho : s.length % 2 = 1) : ∃ l ∈ parts n, barN es l = barN es s := by
  have hm : ∀ x, x ∈ (List.range n).filter (fun x => decide (x ∈ s)) ↔ x ∈ s := fun x => by
    rw [List.mem_filter, List.mem_range, decide_eq_true_eq]
    exact ⟨fun h => h.2, fun h => ⟨hs x h, h⟩⟩
  have nd2 : ((List.range n).filter fun x => decide (x ∈ s)).Nodup := List.Nodup.sublist List.filter_sublist List.nodup_range
  have hl : ((List.range n).filter fun x => decide (x ∈ s)).length = s.length := Nat.le_antisymm (sub_len nd2 fun x hx => (hm x).mp hx) (sub_len nd fun x hx => (hm x).mpr hx)
  exact ⟨_, parts_mem.mpr ⟨subs_all _ n, by rw [hl]; exact h3, by rw [hl]; exact ho⟩, barN_congr hl hm⟩
end My
set_option Elab.async false
set_option linter.all false
set_option maxRecDepth 100000
set_option maxHeartbeats 4000000
namespace My
open PySem L2
def top (i : Nat) : Stmt := PySem.Challenge.pw_tintties_k61_bars.main.body.getD i (.Pass ⟨0, 0, 0, 0⟩)
section
variable {P : Program} {w : World} {K : PySem.W.Frag} {mg : Str → Option Value} {base : Heap}
abbrev sDraw : Stmt := top 17
def spDraw (K : PySem.W.Frag) : Sp := fun vs H Q _ => ∃ (a : Addr) (ns : List Int) (k : Int), vs = [.ref a, .int k] ∧ SqL K H a (ns.map V.int) ∧ ns.length ≤ 63 ∧ 0 ≤ k ∧ k ≤ 1000000 ∧ Q (.int (draw ns k)) H
theorem scDraw : FnScope ["_law_script", "_law_k", "_law_cell"] ["_law_script", "_law_k"] (defScope sDraw) := ⟨rfl, rfl, rfl, by decide +kernel, rfl, by decide +kernel, by decide +kernel⟩
theorem ok_draw {f : Addr} {fd : FuncData} (F : Fun K "_law_draw" "_law_draw" sDraw f fd) (T : Bi mg) : FnOk P w K mg base CX0 1 f fd ["_law_script", "_law_k"] (spDraw K) := by
  refine F.ok scDraw (fun vs H Q E h => ?_) (fun cdv A outer s H vs Q E hr h => ?_)
  · obtain ⟨a, ns, k, rfl, _⟩ := h
    rfl
  · obtain ⟨a, ns, k, rfl, hS, hl, k0, k1, q⟩ := h
    refine ⟨_, pss_cons (ps_set (i := 2) scDraw.nd rfl (Or.inl rfl) (pe_op op_add (pe_op op_mul pe_int (pv 1)) pe_int))
      (pss_cons (ps_if (pt_cmpR op_gt (pe_callB call_len_seq (by rfl) T.len bLen (pa_c (pv 0) pa_nil)) pe_int (nomark _))
        (pss_one (ps_set (i := 2) scDraw.nd rfl (Or.inl rfl) (pe_op op_add (pe_op op_add (pe_op op_mod (pe_ix ix_list (pv 0) (pe_op op_mod (pv 1) (pe_callB call_len_seq (by rfl) T.len bLen (pa_c (pv 0) pa_nil))) (fun _ _ => rfl)) pe_int)
          (pe_op op_mul (pe_op op_fdiv (pv 1) (pe_callB call_len_seq (by rfl) T.len bLen (pa_c (pv 0) pa_nil))) pe_int)) pe_int))) pss_nil)
      (pss_cons (ps_set (i := 2) scDraw.nd rfl (Or.inl rfl) (pe_op op_mod (pe_op op_add (pe_op op_add (pe_op op_mul (pv 2) pe_int) (pe_op op_mul (pe_op op_mul (pv 1) (pv 1)) pe_int)) pe_int) pe_int))
      (pss_one (ps_ret (pe_op op_mod (pe_op op_mul (pv 2) (pv 2)) pe_int))))), ?_⟩
    refine ⟨_, rfl, _, _, rfl, rfl, .inl ⟨by decide, by decide⟩, _, _, rfl, rfl, ?_⟩
    refine ⟨_, rfl, a, _, rfl, .inl hS, _, _, rfl, rfl, _, rfl, ?_⟩
    have last : ∀ c : Int, c = (if ns.length > 0 then ns.getD (k % (ns.length : Int)).toNat 0 % 2147483629 + k / (ns.length : Int) * 7349 + 1 else 2 * k + 1) →
        (tSeq (tAsg (tOp (rI (fun _ j => 0 < j) fun i j => .int (i % j)) (tOp (rI0 fun i j => .int (i + j)) (tOp (rI0 fun i j => .int (i + j)) (tOp (rI CMul fun i j => .int (i * j)) (tVar 2) (tC (.int 48271))) (tOp (rI CMul fun i j => .int (i * j)) (tOp (rI CMul fun i j => .int (i * j)) (tVar 1) (tVar 1)) (tC (.int 16807)))) (tC (.int 3))) (tC (.int 2147483647))) (gName 2))
          (tRet (tOp (rI (fun _ j => 0 < j) fun i j => .int (i % j)) (tOp (rI CMul fun i j => .int (i * j)) (tVar 2) (tVar 2)) (tC (.int 2147483629))))) { nx := fun _ H' => Q .non H', rt := Q } [some (.ref a), some (.int k), some (.int c)] H := by
      intro c hc
      refine ⟨_, rfl, _, _, rfl, rfl, .inr ⟨by decide, by decide⟩, _, rfl, _, rfl, _, _, rfl, rfl, .inl ⟨by omega, by omega⟩, _, _, rfl, rfl, .inr ⟨by decide, by decide⟩, _, _, rfl, rfl, _, _, rfl, rfl, _, _, rfl, rfl, (by show (0 : Int) < 2147483647; decide), ?_⟩
      have b1 := mod_lo (n := c * 48271 + k * k * 16807 + 3) (p := 2147483647) (by decide)
      have b2 := mod_hi (n := c * 48271 + k * k * 16807 + 3) (p := 2147483647) (by decide)
      refine ⟨_, rfl, _, rfl, _, _, rfl, rfl, .inl ⟨by omega, by omega⟩, _, _, rfl, rfl, (by show (0 : Int) < 2147483629; decide), ?_⟩
      have e : (c * 48271 + k * k * 16807 + 3) % 2147483647 * ((c * 48271 + k * k * 16807 + 3) % 2147483647) % 2147483629 = draw ns k := by
        rw [hc]; rfl
      show Q (.int _) H
      rw [e]
      exact q
    refine ite2 (fun hc => ?_) (fun hc => ?_)
    · have hp : 0 < ns.length := by
        have := of_decide_eq_true hc
        rw [List.length_map] at this
        omega
      have hp' : (0 : Int) < ((ns.map V.int).length : Int) := by rw [List.length_map]; omega
      have m1 := mod_lo (n := k) hp'
      have m2 := mod_hi (n := k) hp'
      rw [List.length_map] at m2
      have ix : L2.atI (ns.map V.int) (k % ((ns.map V.int).length : Int)) = some (V.int (ns.getD (k % (ns.length : Int)).toNat 0)) := by
        have e0 : k % ((ns.map V.int).length : Int) = (((k % (ns.length : Int)).toNat : Nat) : Int) := by
          rw [List.length_map] at m1 ⊢
          omega
        rw [e0]
        refine atI_nat ?_
        have hlt : (k % (ns.length : Int)).toNat < ns.length := by
          rw [List.length_map] at m1
          omega
        rw [List.getElem?_map, List.getD_eq_getElem?_getD, List.getElem?_eq_getElem hlt]
        rfl
      refine ⟨_, rfl, _, rfl, _, rfl, a, _, rfl, .inl hS, _, _, rfl, rfl, hp', a, _, _, _, rfl, rfl, hS, ix, _, _, rfl, rfl, (by show (0 : Int) < 2147483629; decide), _, rfl, _, rfl, a, _, rfl, .inl hS, _, _, rfl, rfl, ⟨hp', by rw [List.length_map]; omega⟩, _, _, rfl, rfl, .inr ⟨by decide, by decide⟩, _, _, rfl, rfl, _, _, rfl, rfl, ?_⟩
      refine last _ ?_
      rw [if_pos hp, List.length_map]
    · have hp : ¬ ns.length > 0 := by
        intro z
        refine hc (decide_eq_true ?_)
        rw [List.length_map]
        omega
      refine last _ ?_
      rw [if_neg hp]
abbrev sTie : Stmt := top 18
abbrev nTie : List Str := ["_law_number", "_law_k", "_law_points", "_law_kind", "_law_one", "_law_other", "_law_few"]
def spTie : Sp := fun vs H Q _ => ∃ n k p kd : Int, vs = [.int n, .int k, .int p, .int kd] ∧ 0 ≤ n ∧ 0 ≤ k ∧ 2 ≤ p ∧ p ≤ 60 ∧
  ∀ (i j : Int) (t : Addr) (H' : Hp), 0 ≤ i → i < p → 0 ≤ j → j < p → i ≠ j → Same H H' → H' t = some (.tup [.int i, .int j]) → Q (.ref t) H'
theorem scTie : FnScope nTie ["_law_number", "_law_k", "_law_points", "_law_kind"] (defScope sTie) := ⟨rfl, rfl, rfl, by decide +kernel, rfl, by decide +kernel, by decide +kernel⟩
theorem ok_tie {f : Addr} {fd : FuncData} (F : Fun K "_law_tie" "_law_tie" sTie f fd) (T : Bi mg) : FnOk P w K mg base CX0 1 f fd ["_law_number", "_law_k", "_law_points", "_law_kind"] spTie := by
  refine F.ok scTie (fun vs H Q E h => ?_) (fun cdv A outer s H vs Q E hr h => ?_)
  · obtain ⟨n, k, p, kd, rfl, _⟩ := h
    rfl
  · obtain ⟨n, k, p, kd, rfl, n0, k0, p2, p60, q⟩ := h
    obtain ⟨t5, h5, r5w⟩ : ∃ t, PSs (cxOf CX0 P w K mg base nTie "_law_tie" (defScope sTie) f cdv A outer s H E).nox ((defBody sTie).drop 5) t ∧ ∀ (H1 : Hp), Same H H1 → ∀ (i j : Int) (v6 : Option V), 0 ≤ i → i < p → 0 ≤ j → j < p → i ≠ j →
        t { nx := fun _ H' => Q .non H', rt := Q } [some (.int n), some (.int k), some (.int p), some (.int kd), some (.int i), some (.int j), v6] H1 := by
      refine ⟨_, pss_cons (ps_if (pt_cmpR op_eq (pe_op op_mod (pe_op op_fdiv (pv 0) pe_int) pe_int) pe_int (nomark _)) (pss_one (ps_ret (pe_tupS (pa_c (pv 5) (pa_c (pv 4) pa_nil))))) pss_nil) (pss_one (ps_ret (pe_tupS (pa_c (pv 4) (pa_c (pv 5) pa_nil))))), fun H1 sH1 i j v6 i0 i1 j0 j1 ne => ?_⟩
      refine ⟨_, rfl, _, _, rfl, rfl, ⟨by decide, by decide⟩, _, _, rfl, rfl, (by show (0 : Int) < 2; decide), rfl, _, rfl, ?_⟩
      refine ite2 (fun _ => ?_) (fun _ => ?_)
      · exact ⟨_, rfl, _, rfl, rfl, fun t H' s' ht => q j i t H' j0 j1 i0 i1 (Ne.symm ne) (Same.trans sH1 s') ht⟩
      · exact ⟨_, rfl, _, rfl, rfl, fun t H' s' ht => q i j t H' i0 i1 j0 j1 ne (Same.trans sH1 s') ht⟩
    have r5 := r5w H (Same.refl H)
    have m1 := mod_lo (n := n / 64) (p := p - 1) (by omega)
    have m2 := mod_hi (n := n / 64) (p := p - 1) (by omega)
    obtain ⟨t4, h4, r4⟩ : ∃ t, PSs (cxOf CX0 P w K mg base nTie "_law_tie" (defScope sTie) f cdv A outer s H E).nox ((defBody sTie).drop 4) t ∧ ∀ (i j : Int) (v6 : Option V), 0 ≤ i → i < p → 0 ≤ j → j < p → i ≠ j →
        t { nx := fun _ H' => Q .non H', rt := Q } [some (.int n), some (.int k), some (.int p), some (.int kd), some (.int i), some (.int j), v6] H := by
      refine ⟨_, pss_cons (ps_if (pt_cmpR op_eq (pv 3) pe_int (nomark _))
        (pss_cons (ps_set (i := 6) scTie.nd rfl (Or.inl rfl) (pe_callB (call_min2 rfl) rfl T.min bMin (pa_c (pv 2) (pa_c (pe_ix ix_list (pe_lstS (pa_c pe_int (pa_c pe_int pa_nil))) (pe_op op_mod (pe_op op_fdiv (pv 0) pe_int) pe_int) (fun _ _ => rfl)) pa_nil))))
        (pss_cons (ps_set (i := 4) scTie.nd rfl (Or.inl rfl) (pe_op op_mod (pv 1) (pv 6)))
        (pss_one (ps_set (i := 5) scTie.nd rfl (Or.inl rfl) (pe_op op_mod (pe_op op_add (pe_op op_add (pv 4) pe_int) (pe_op op_mod (pe_op op_fdiv (pv 1) (pv 6)) (pe_op op_sub (pv 6) pe_int))) (pv 6)))))) pss_nil) h5, fun i j v6 i0 i1 j0 j1 ne => ?_⟩
      refine ⟨_, rfl, rfl, _, rfl, ?_⟩
      refine ite2 (fun _ => ?_) (fun _ => ?_)
      · refine ⟨_, rfl, rfl, fun l H1 s1 hl => ?_⟩
        obtain ⟨b, hat, hb⟩ : ∃ b : Int, atI [V.int 5, V.int 7] (n / 128 % 2) = some (.int b) ∧ (b = 5 ∨ b = 7) := by
          have c1 := mod_lo (n := n / 128) (p := 2) (by decide)
          have c2 := mod_hi (n := n / 128) (p := 2) (by decide)
          have : n / 128 % 2 = 0 ∨ n / 128 % 2 = 1 := by omega
          rcases this with e | e <;> rw [e]
          · exact ⟨5, rfl, .inl rfl⟩
          · exact ⟨7, rfl, .inr rfl⟩
        refine ⟨_, rfl, _, _, rfl, rfl, ⟨by decide, by decide⟩, _, _, rfl, rfl, (by show (0 : Int) < 2; decide), l, _, _, _, rfl, rfl, SqL.of hl, hat, _, _, rfl, ?_⟩
        have hfe : ∃ fe : Int, fe = (if b < p then b else p) := ⟨_, rfl⟩
        obtain ⟨fe, hfe⟩ := hfe
        have h2 : 2 ≤ fe ∧ fe ≤ p ∧ fe ≤ 60 := by rw [hfe]; split <;> omega
        dsimp only [gName]
        rw [← hfe]
        have a1 := mod_lo (n := k) (p := fe) (by omega)
        have a2 := mod_hi (n := k) (p := fe) (by omega)
        have b1 := mod_lo (n := k / fe) (p := fe - 1) (by omega)
        have b2 := mod_hi (n := k / fe) (p := fe - 1) (by omega)
        have d1 := mod_lo (n := k % fe + 1 + k / fe % (fe - 1)) (p := fe) (by omega)
        have d2 := mod_hi (n := k % fe + 1 + k / fe % (fe - 1)) (p := fe) (by omega)
        have ne2 : k % fe ≠ (k % fe + 1 + k / fe % (fe - 1)) % fe := fun z => by
          refine step_ne (a := k % fe) (d := 1 + k / fe % (fe - 1)) (p := fe) a1 a2 (by omega) (by omega) ?_
          rw [← Int.add_assoc]
          exact z.symm
        refine ⟨_, rfl, _, rfl, _, _, rfl, rfl, (by show (0 : Int) < fe; omega), ?_⟩
        refine ⟨_, rfl, _, _, rfl, rfl, _, rfl, _, rfl, _, _, rfl, rfl, ⟨by omega, by omega⟩, _, rfl, _, _, rfl, rfl, _, _, rfl, rfl, (by show (0 : Int) < fe - 1; omega), _, _, rfl, rfl, _, rfl, _, _, rfl, rfl, (by show (0 : Int) < fe; omega), ?_⟩
        exact r5w H1 s1 _ _ _ a1 (by omega) d1 (by omega) ne2
      · exact r5 i j _ i0 i1 j0 j1 ne
    obtain ⟨t3, h3, r3⟩ : ∃ t, PSs (cxOf CX0 P w K mg base nTie "_law_tie" (defScope sTie) f cdv A outer s H E).nox ((defBody sTie).drop 3) t ∧ ∀ (i j : Int) (v6 : Option V), 0 ≤ i → i < p → 0 ≤ j → j < p → i ≠ j →
        t { nx := fun _ H' => Q .non H', rt := Q } [some (.int n), some (.int k), some (.int p), some (.int kd), some (.int i), some (.int j), v6] H := by
      refine ⟨_, pss_cons (ps_if (pt_cmpR op_eq (pv 3) pe_int (nomark _)) (pss_cons (ps_set (i := 4) scTie.nd rfl (Or.inl rfl) pe_int) (pss_one (ps_set (i := 5) scTie.nd rfl (Or.inl rfl) (pe_op op_add pe_int (pe_op op_mod (pe_op op_fdiv (pv 0) pe_int) (pe_op op_sub (pv 2) pe_int)))))) pss_nil) h4, fun i j v6 i0 i1 j0 j1 ne => ?_⟩
      refine ⟨_, rfl, rfl, _, rfl, ?_⟩
      refine ite2 (fun _ => ?_) (fun _ => ?_)
      · exact ⟨_, rfl, _, _, rfl, rfl, ⟨by decide, by decide⟩, _, rfl, _, _, rfl, rfl, _, _, rfl, rfl, (by show (0 : Int) < p - 1; omega), _, _, rfl, rfl, r4 0 _ _ (by omega) (by omega) (by omega) (by omega) (by omega)⟩
      · exact r4 i j _ i0 i1 j0 j1 ne
    obtain ⟨t2, h2, r2⟩ : ∃ t, PSs (cxOf CX0 P w K mg base nTie "_law_tie" (defScope sTie) f cdv A outer s H E).nox ((defBody sTie).drop 2) t ∧ ∀ (i j : Int) (v6 : Option V), 0 ≤ i → i < p → 0 ≤ j → j < p → i ≠ j →
        t { nx := fun _ H' => Q .non H', rt := Q } [some (.int n), some (.int k), some (.int p), some (.int kd), some (.int i), some (.int j), v6] H := by
      refine ⟨_, pss_cons (ps_if (PW.pt (pw_and (pt_cmpR op_eq (pv 3) pe_int (nomark _)) (pw_and1 (pt_cmpR op_lt (pv 1) (pv 2) (nomark _))))) (pss_cons (ps_set (i := 4) scTie.nd rfl (Or.inl rfl) (pv 1)) (pss_one (ps_set (i := 5) scTie.nd rfl (Or.inl rfl) (pe_op op_mod (pe_op op_add (pv 1) pe_int) (pv 2))))) pss_nil) h3, fun i j v6 i0 i1 j0 j1 ne => ?_⟩
      refine ⟨_, rfl, rfl, _, rfl, ?_⟩
      refine ite2 (fun _ => ?_) (fun _ => ?_)
      · refine ⟨_, rfl, _, rfl, _, _, rfl, rfl, _, rfl, ?_⟩
        refine ite2 (fun hz => ?_) (fun _ => ?_)
        · have hk : k < p := of_decide_eq_true hz
          have e : k % p = k := Int.emod_eq_of_lt k0 hk
          refine ⟨_, rfl, ?_⟩
          refine ⟨_, rfl, _, _, rfl, rfl, _, rfl, _, _, rfl, rfl, (by show (0 : Int) < p; omega), r3 k _ _ k0 hk (mod_lo (by omega)) (mod_hi (by omega)) (fun z => next_ne (n := k) p2 (by rw [← z, e]))⟩
        · exact r3 i j _ i0 i1 j0 j1 ne
      · exact iteF (r3 i j _ i0 i1 j0 j1 ne)
    refine ⟨_, pss_cons (ps_set (i := 4) scTie.nd rfl (Or.inl rfl) (pe_op op_mod (pv 0) (pv 2)))
      (pss_cons (ps_set (i := 5) scTie.nd rfl (Or.inl rfl) (pe_op op_mod (pe_op op_add (pe_op op_add (pv 4) pe_int) (pe_op op_mod (pe_op op_fdiv (pv 0) pe_int) (pe_op op_sub (pv 2) pe_int))) (pv 2))) h2), ?_⟩
    have a1 := mod_lo (n := n) (p := p) (by omega)
    have a2 := mod_hi (n := n) (p := p) (by omega)
    refine ⟨_, rfl, _, rfl, _, _, rfl, rfl, (by show (0 : Int) < p; omega), ?_⟩
    refine ⟨_, rfl, _, _, rfl, rfl, _, rfl, _, _, rfl, rfl, ⟨by decide, by decide⟩, _, rfl, _, _, rfl, rfl, _, _, rfl, rfl, (by show (0 : Int) < p - 1; omega), _, _, rfl, rfl, _, rfl, _, _, rfl, rfl, (by show (0 : Int) < p; omega), ?_⟩
    have ne : n % p ≠ (n % p + 1 + n / 64 % (p - 1)) % p := fun z => by
      refine step_ne (a := n % p) (d := 1 + n / 64 % (p - 1)) (p := p) a1 a2 (by omega) (by omega) ?_
      rw [← Int.add_assoc]
      exact z.symm
    exact r2 _ _ _ a1 a2 (mod_lo (by omega)) (mod_hi (by omega)) ne
end
end My
set_option Elab.async false
set_option linter.all false
set_option maxRecDepth 100000
set_option maxHeartbeats 4000000
namespace My
open PySem L2
def compScope : Expr → Scope
  | .ListComp _ _ s _ => s
  | .Call _ [e] _ _ => compScope e
  | .Tuple [_, e] _ _ => compScope e
  | .BinOp _ _ e _ => compScope e
  | .Compare a _ _ _ => compScope a
  | _ => { kind := .function, names := [], isGenerator := false, isCoroutine := false }
def retE : Stmt → Expr
  | .Return (some e) _ => e
  | .Assign _ e _ => e
  | _ => .Constant .none 0 ⟨0, 0, 0, 0⟩
def stOf (i k : Nat) : Stmt := (defBody (top i)).getD k (.Pass ⟨0,0,0,0⟩)
section
variable {P : Program} {w : World} {K : PySem.W.Frag} {mg : Str → Option Value} {base : Heap}
abbrev sNet : Stmt := top 19
abbrev netScope : Scope := compScope (retE (stOf 19 5))
abbrev nNet : List Str := ["_law_script", "_law_at", "_law_points", "_law_kind", "_law_many"]
def spNet (K : PySem.W.Frag) : Sp := fun vs H Q _ => ∃ (a : Addr) (ns : List Int), vs = [.ref a, .int 8] ∧ SqL K H a (ns.map V.int) ∧ ns.length ≤ 63 ∧
  ∀ (H' : Hp) (p : Addr) (n : Nat) (q : Addr) (ts : List V) (es : List (Nat × Nat)), Same H H' → NetZ H' p n q ts es → 1 ≤ n → n ≤ 9 → es.length ≤ 20 → Q (.ref p) H'
theorem ndNet : (["_law_k", "_law_at", "_law_kind", "_law_points", "_law_script"] : List Str).Nodup := by decide +kernel
theorem scNet : FnScope nNet ["_law_script", "_law_at"] (defScope sNet) := ⟨rfl, rfl, rfl, by decide +kernel, rfl, by decide +kernel, by decide +kernel⟩
theorem blkNet {f : Addr} {cdv : Value} {A : Around} {outer : List Env} {s : Shared} {H : Hp} {E : XK} :
    Blk (cxOf CX0 P w K mg base nNet "_law_net" (defScope sNet) f cdv A outer s H E).nox netScope [("_law_script", s.heap.objs.size + 1), ("_law_points", s.heap.objs.size + 3), ("_law_kind", s.heap.objs.size + 4), ("_law_at", s.heap.objs.size + 2)]
      ["_law_k", "_law_at", "_law_kind", "_law_points", "_law_script"] [none, some 1, some 3, some 2, some 0] := by
  refine ⟨rfl, rfl, by decide +kernel, by decide +kernel, fun p hp => ?_, fun y hy e => ?_, ⟨rfl, rfl, rfl⟩, ⟨rfl, rfl, rfl⟩, ⟨rfl, rfl, rfl⟩, ⟨rfl, rfl, rfl⟩, trivial⟩
  · simp only [List.mem_cons, List.not_mem_nil, or_false] at hp
    rcases hp with rfl | rfl | rfl | rfl <;> rfl
  · have hy' : y ∈ [((PySem.Str.ofString ".0" : Str), NameKind.local), (PySem.Str.ofString "_law_k", .local), (PySem.Str.ofString "_law_tie", .globalImplicit), (PySem.Str.ofString "_law_draw", .globalImplicit), (PySem.Str.ofString "_law_at", .free), (PySem.Str.ofString "_law_kind", .free), (PySem.Str.ofString "_law_points", .free), (PySem.Str.ofString "_law_script", .free)] := hy
    simp only [List.mem_cons, List.not_mem_nil, or_false] at hy'
    rcases hy' with rfl | rfl | rfl | rfl | rfl | rfl | rfl | rfl <;> first | rfl | cases e
theorem ok_net {f : Addr} {fd : FuncData} (F : Fun K "_law_net" "_law_net" sNet f fd) (T : Bi mg) (FD : FnE P w K mg base "_law_draw" ["_law_script", "_law_k"] 1 (spDraw K)) (FT : FnE P w K mg base "_law_tie" ["_law_number", "_law_k", "_law_points", "_law_kind"] 1 spTie) : FnOk P w K mg base CX0 2 f fd ["_law_script", "_law_at"] (spNet K) := by
  refine F.ok scNet (fun vs H Q E h => ?_) (fun cdv A outer s H vs Q E hr h => ?_)
  · obtain ⟨a, ns, rfl, _⟩ := h
    rfl
  · obtain ⟨a, ns, rfl, hS, hl, q⟩ := h
    obtain ⟨t5, h5, r5⟩ : ∃ t, PSs (cxOf CX0 P w K mg base nNet "_law_net" (defScope sNet) f cdv A outer s H E).nox ((defBody sNet).drop 5) t ∧ ∀ (pt kd : Int) (mm : Nat), 1 ≤ pt → pt ≤ 9 → mm ≤ 20 → (2 ≤ pt ∨ mm = 0) →
        t { nx := fun _ H' => Q .non H', rt := Q } [some (.ref a), some (.int 8), some (.int pt), some (.int kd), some (.int (mm : Int))] H := by
      refine ⟨_, pss_one (ps_ret (pe_tupS (pa_c (pv 2) (pa_c (pe_callTy call_tuple_ofS rfl T.tuple bTuple (pa_c (pe_lcR blkNet rfl rfl T.range (pa_c (pv 4) pa_nil) (monoA_cons (mono_var 4) monoA_nil) rfl (fun C fp s H => pg_name (i := 0) ndNet rfl (Or.inl rfl)) (fun C fp s H => pts_nil)
          (fun C fp s H => pe_fc FT hr (pa_c (pe_fc FD hr (pa_c (pv 4) (pa_c (pe_op op_add (pe_op op_add (pv 1) pe_int) (pv 0)) pa_nil))) (pa_c (pv 0) (pa_c (pv 3) (pa_c (pv 2) pa_nil)))))) pa_nil)) pa_nil)))), fun pt kd mm p1 p9 hm hp => ?_⟩
      refine ⟨_, rfl, _, rfl, mm, rfl, by omega, fun i ys σ H' => Same H H' ∧ ys.length = i ∧ Ties H' pt ys ∧ ∃ v0, σ = [v0, some (.int 8), some (.int kd), some (.int pt), some (.ref a)], ⟨Same.refl H, rfl, (fun t ht => by cases ht), none, rfl⟩, fun i ys σ H' hi ⟨_, e, _⟩ => by omega, fun i ys σ H' hi ⟨s1, e1, hT, v0, e⟩ => ?_, fun ys σ H' ⟨s1, e1, hT, _⟩ l H2 s2 hl2 => ?_⟩
      · subst e
        dsimp only [gName, tTrue]
        refine iteT ⟨_, rfl, _, rfl, _, _, rfl, rfl, _, rfl, _, _, rfl, rfl, a, ns, _, rfl, s1.seq hS, hl, by omega, by omega, _, rfl, _, rfl, _, rfl, _, _, _, _, rfl, draw_nn _ _, by omega, by omega, by omega, fun x y t H3 x0 x1 y0 y1 ne s3 ht => ⟨Same.trans s1 s3, by rw [List.length_append, e1]; rfl, fun u hu => ?_, _, rfl⟩⟩
        rcases List.mem_append.mp hu with z | z
        · exact (hT u z).same s3
        · rw [List.mem_singleton.mp z]
          exact ⟨t, x, y, rfl, ht, x0, x1, y0, y1, ne⟩
      · refine ⟨l, _, rfl, .inl hl2, fun u H3 s3 hu => ⟨rfl, fun p H4 s4 hp => ?_⟩⟩
        have sA : Same H' H4 := Same.trans (Same.trans s2 s3) s4
        obtain ⟨es, N⟩ := netZ_of (n := pt) hp (s4 _ _ hu) (by omega) (hT.same sA) (by omega) (by omega) (Int.le_refl _)
        exact q H4 p _ u _ es (Same.trans s1 sA) N (by omega) (by omega) (by have := N.len; omega)
    obtain ⟨t3, h3, r3⟩ : ∃ t, PSs (cxOf CX0 P w K mg base nNet "_law_net" (defScope sNet) f cdv A outer s H E).nox ((defBody sNet).drop 3) t ∧ ∀ pt kd : Int, 1 ≤ pt → pt ≤ 9 →
        t { nx := fun _ H' => Q .non H', rt := Q } [some (.ref a), some (.int 8), some (.int pt), some (.int kd), none] H := by
      refine ⟨_, pss_cons (ps_set (i := 4) scNet.nd rfl (Or.inl rfl) (pe_op op_mod (pe_fc FD hr (pa_c (pv 0) (pa_c (pe_op op_add (pv 1) pe_int) pa_nil))) pe_int))
        (pss_cons (ps_if (pt_cmpR op_eq (pv 2) pe_int (nomark _)) (pss_one (ps_set (i := 4) scNet.nd rfl (Or.inl rfl) pe_int)) pss_nil) h5), fun pt kd p1 p9 => ?_⟩
      refine ⟨_, rfl, _, rfl, _, _, rfl, rfl, a, ns, _, rfl, hS, hl, by decide, by decide, _, _, rfl, rfl, (by show (0 : Int) < 21; decide), ?_⟩
      have d1 := mod_lo (n := draw ns (8 + 2)) (p := 21) (by decide)
      have d2 := mod_hi (n := draw ns (8 + 2)) (p := 21) (by decide)
      obtain ⟨mm, hmm⟩ : ∃ m : Nat, draw ns (8 + 2) % 21 = (m : Int) := ⟨(draw ns (8 + 2) % 21).toNat, by omega⟩
      refine ⟨_, rfl, rfl, _, rfl, ?_⟩
      refine ite2 (fun _ => ?_) (fun z => ?_)
      · exact r5 pt kd 0 p1 p9 (Nat.zero_le _) (.inr rfl)
      · have h2 : 2 ≤ pt := by
          have : pt ≠ 1 := fun y => z (decide_eq_true (by rw [y]))
          omega
        have := r5 pt kd mm p1 p9 (by omega) (.inl h2)
        rw [← hmm] at this
        exact this
    refine ⟨_, pss_cons (ps_set (i := 2) scNet.nd rfl (Or.inr rfl) (pe_op op_add pe_int (pe_op op_mod (pe_fc FD hr (pa_c (pv 0) (pa_c (pv 1) pa_nil))) pe_int)))
      (pss_cons (ps_set (i := 3) scNet.nd rfl (Or.inr rfl) (pe_op op_mod (pe_fc FD hr (pa_c (pv 0) (pa_c (pe_op op_add (pv 1) pe_int) pa_nil))) pe_int))
      (pss_cons (ps_if (pt_cmpR op_eq (pv 3) pe_int (nomark _)) (pss_one (ps_set (i := 2) scNet.nd rfl (Or.inr rfl) (pe_op op_add pe_int (pe_op op_mod (pv 2) pe_int)))) pss_nil) h3)), ?_⟩
    have d1 := mod_lo (n := draw ns 8) (p := 9) (by decide)
    have d2 := mod_hi (n := draw ns 8) (p := 9) (by decide)
    have d3 := mod_lo (n := 1 + draw ns 8 % 9) (p := 4) (by decide)
    have d4 := mod_hi (n := 1 + draw ns 8 % 9) (p := 4) (by decide)
    refine ⟨_, rfl, _, rfl, a, ns, _, rfl, hS, hl, by decide, by decide, _, _, rfl, rfl, (by show (0 : Int) < 9; decide), _, _, rfl, rfl, ?_⟩
    refine ⟨_, rfl, _, rfl, _, _, rfl, rfl, a, ns, _, rfl, hS, hl, by decide, by decide, _, _, rfl, rfl, (by show (0 : Int) < 5; decide), ?_⟩
    refine ⟨_, rfl, rfl, _, rfl, ?_⟩
    refine ite2 (fun _ => ?_) (fun _ => ?_)
    · exact ⟨_, rfl, _, _, rfl, rfl, (by show (0 : Int) < 4; decide), _, _, rfl, rfl, r3 _ _ (by omega) (by omega)⟩
    · exact r3 _ _ (by omega) (by omega)
end
end My
set_option Elab.async false
set_option linter.all false
set_option maxRecDepth 100000
set_option maxHeartbeats 4000000
namespace L2
open PySem PySem.Spec PyProof.Rows
theorem ix_tupQ {X : Cx} {K : PySem.W.Frag} (hK : X.K = K) : IxR X (rIxT K) := by
  subst hK
  exact ix_tup
theorem op_inQ {X : Cx} {K : PySem.W.Frag} (hK : X.K = K) : OpR X (compareOp .In) (rIn K false) := by
  subst hK
  exact op_in_seq
end L2
namespace My
open PySem L2
theorem in_nl (k : Nat) (l : List Nat) : inV (.int (k : Int)) (nl l) = true ↔ k ∈ l := by
  unfold inV nl
  rw [List.any_map, List.any_eq_true]
  constructor
  · rintro ⟨x, hx, e⟩
    have e' : ((x : Int) == (k : Int)) = true := e
    have := eq_of_beq e'
    rw [show k = x by omega]
    exact hx
  · intro h
    exact ⟨k, h, (beq_iff_eq.mpr rfl : ((k : Int) == (k : Int)) = true)⟩
theorem flat_nl (l : List Nat) : (nl l).all flatV = true := by
  unfold nl
  rw [List.all_map, List.all_eq_true]
  exact fun x _ => rfl
theorem div_cast (m n : Nat) : ((m : Int) / (n : Int)) = ((m / n : Nat) : Int) := rfl
theorem half_cast {s : List Nat} (h : 3 ≤ s.length) : (((nl s).length : Int) - 1) / 2 = (half s : Int) ∧ 0 < half s := by
  rw [nl_len]
  unfold half
  omega
def lenC : Stmt → Scope
  | .Assign _ (.Call _ [.ListComp _ _ s _] _ _) _ => s
  | _ => { kind := .function, names := [], isGenerator := false, isCoroutine := false }
section
variable {P : Program} {w : World} {K : PySem.W.Frag} {mg : Str → Option Value} {base : Heap}
def spBr : Sp := fun vs H Q _ => ∃ (p t : Addr) (n : Nat) (q : Addr) (ts : List V) (es : List (Nat × Nat)) (s : List Nat), vs = [.ref p, .ref t] ∧ NetZ H p n q ts es ∧ H t = some (.tup (nl s)) ∧ 3 ≤ s.length ∧ s.length ≤ 100 ∧ ∀ H', Same H H' → Q (.int (barN es s : Int)) H'
abbrev sBr : Stmt := top 12
abbrev nBr : List Str := ["net", "part", "inside", "at_once"]
abbrev brS : Scope := lenC (stOf 12 0)
theorem ndBr : (["ends", "part"] : List Str).Nodup := by decide +kernel
theorem scBr : FnScope nBr ["net", "part"] (defScope sBr) := ⟨rfl, rfl, rfl, by decide +kernel, rfl, by decide +kernel, by decide +kernel⟩
theorem blkBr {f : Addr} {cdv : Value} {A : Around} {outer : List Env} {s : Shared} {H : Hp} {E : XK} :
    Blk (cxOf CX0 P w K mg base nBr "bar" (defScope sBr) f cdv A outer s H E).nox brS [("part", s.heap.objs.size + 1)] ["ends", "part"] [none, some 1] := by
  refine ⟨rfl, rfl, by decide +kernel, by decide +kernel, fun p hp => ?_, fun y hy e => ?_, ⟨rfl, rfl, rfl⟩, trivial⟩
  · rw [List.mem_singleton.mp hp]
    rfl
  · have hy' : y ∈ [((PySem.Str.ofString ".0" : Str), NameKind.local), (PySem.Str.ofString "ends", .local), (PySem.Str.ofString "part", .free)] := hy
    simp only [List.mem_cons, List.not_mem_nil, or_false] at hy'
    rcases hy' with rfl | rfl | rfl <;> first | rfl | cases e
theorem ok_br {f : Addr} {fd : FuncData} (F : Fun K "bar" "bar" sBr f fd) (T : Bi mg) : FnOk P w K mg base CX0 1 f fd ["net", "part"] spBr := by
  refine F.ok scBr (fun vs H Q E h => ?_) (fun cdv A outer s H vs Q E hr h => ?_)
  · obtain ⟨p, t, n, q, ts, es, s', rfl, _⟩ := h
    rfl
  · obtain ⟨p, t, n, qa, ts, es, st, rfl, N, ht, h3, h100, q⟩ := h
    refine ⟨_, pss_cons (ps_set (i := 2) scBr.nd rfl (Or.inl rfl) (pe_callB call_len_seq rfl T.len bLen (pa_c (pe_lcT blkBr rfl (pe_ix ix_tup (pv 0) pe_int (fun _ _ => rfl)) (mono_ixT (mono_var 0) (mono_c _)) (fun C fp s H => pg_name (i := 0) ndBr rfl (Or.inl rfl))
        (fun C fp s H => pts_one (PW.pt (pw_and (pt_cmpR (op_inQ (K := K) rfl) (pe_ix (ix_tupQ (K := K) rfl) (pv 0) pe_int (fun _ _ => rfl)) (pv 1) rfl) (pw_and1 (pt_cmpR (op_inQ (K := K) rfl) (pe_ix (ix_tupQ (K := K) rfl) (pv 0) pe_int (fun _ _ => rfl)) (pv 1) rfl))))) (fun C fp s H => pv 0)) pa_nil)))
      (pss_cons (ps_set (i := 3) scBr.nd rfl (Or.inl rfl) (pe_op op_fdiv (pe_op op_sub (pe_callB call_len_seq rfl T.len bLen (pa_c (pv 1) pa_nil)) pe_int) pe_int))
      (pss_one (ps_ret (pe_op op_fdiv (pe_op op_sub (pe_op op_add (pv 2) (pv 3)) pe_int) (pv 3))))), ?_⟩
    have h200 := N.l200
    have hlen := N.len
    refine ⟨_, rfl, p, _, _, _, rfl, rfl, SqT.of N.e1, rfl, qa, _, rfl, SqT.of N.e2, by omega, fun i ys σ G => Same H G ∧ ys.length = insd es st i ∧ ∃ v0, σ = [v0, some (.ref t)], ⟨Same.refl _, rfl, none, rfl⟩, fun i ys σ G hi ⟨sG, e, _⟩ => ⟨SqT.of (sG _ _ N.e2), by rw [e]; exact insd_le _ _ _⟩, fun i x ys σ G hx ⟨sG, e1, v0, e⟩ => ?_, fun ys σ G ⟨sG, e1, _⟩ l G2 s2 hl => ?_⟩
    · subst e
      obtain ⟨a, rfl, ha⟩ := N.tie i x hx
      have haG := sG _ _ ha
      have htG := sG _ _ ht
      have hs := insd_succ es st i
      generalize (es.getD i (0, 0)).1 = A1 at *
      generalize (es.getD i (0, 0)).2 = B1 at *
      refine ⟨_, rfl, a, _, _, _, rfl, rfl, SqT.of haG, rfl, _, rfl, t, _, rfl, .inr (SqT.of htG), rfl, flat_nl _, _, rfl, ?_⟩
      refine ite2 (fun z => ?_) (fun z => ?_)
      · refine ⟨_, rfl, a, _, _, _, rfl, rfl, SqT.of haG, rfl, _, rfl, t, _, rfl, .inr (SqT.of htG), rfl, flat_nl _, _, rfl, ?_⟩
        have m1 : A1 ∈ st := (in_nl A1 st).mp z
        refine ite2 (fun z2 => ?_) (fun z2 => ?_)
        · have m2 : B1 ∈ st := (in_nl B1 st).mp z2
          refine ⟨_, rfl, sG, ?_, _, rfl⟩
          rw [hs, if_pos (by rw [decide_eq_true m1, decide_eq_true m2]; rfl), List.length_append, e1]
          rfl
        · refine ⟨sG, ?_, _, rfl⟩
          have m2 : B1 ∉ st := fun y => z2 ((in_nl B1 st).mpr y)
          rw [hs, if_neg (by rw [decide_eq_false m2, Bool.and_false]; decide), e1]
      · refine iteF ⟨sG, ?_, _, rfl⟩
        have m1 : A1 ∉ st := fun y => z ((in_nl A1 st).mpr y)
        rw [hs, if_neg (by rw [decide_eq_false m1, Bool.false_and]; decide), e1]
    · have sG2 := Same.trans sG s2
      obtain ⟨hc, hp⟩ := half_cast h3
      have hhl : half st ≤ 100 := by unfold half; omega
      refine ⟨l, _, rfl, .inl (SqL.of hl), ?_⟩
      refine ⟨_, rfl, t, _, rfl, .inr (SqT.of (sG2 _ _ ht)), _, _, rfl, rfl, _, _, rfl, rfl, ⟨by decide, by decide⟩, ?_⟩
      dsimp only [gName]
      rw [hc]
      refine ⟨_, rfl, _, rfl, _, _, rfl, rfl, _, _, rfl, rfl, _, rfl, _, _, rfl, rfl, ⟨by omega, by omega⟩, ?_⟩
      rw [e1, hlen]
      show Q (.int ((((insd es st es.length : Nat) : Int) + (half st : Int) - 1) / (half st : Int))) G2
      rw [show ((insd es st es.length : Nat) : Int) + (half st : Int) - 1 = ((insd es st es.length + half st - 1 : Nat) : Int) by omega, div_cast]
      exact q G2 sG2
abbrev sLb : Stmt := top 21
abbrev nLb : List Str := ["_law_net_here", "_law_part_here", "_law_inside", "_law_half"]
abbrev lbS : Scope := lenC (stOf 21 0)
theorem ndLb : (["_law_tie_here", "_law_part_here"] : List Str).Nodup := by decide +kernel
theorem scLb : FnScope nLb ["_law_net_here", "_law_part_here"] (defScope sLb) := ⟨rfl, rfl, rfl, by decide +kernel, rfl, by decide +kernel, by decide +kernel⟩
theorem blkLb {f : Addr} {cdv : Value} {A : Around} {outer : List Env} {s : Shared} {H : Hp} {E : XK} :
    Blk (cxOf CX0 P w K mg base nLb "_law_bar" (defScope sLb) f cdv A outer s H E).nox lbS [("_law_part_here", s.heap.objs.size + 1)] ["_law_tie_here", "_law_part_here"] [none, some 1] := by
  refine ⟨rfl, rfl, by decide +kernel, by decide +kernel, fun p hp => ?_, fun y hy e => ?_, ⟨rfl, rfl, rfl⟩, trivial⟩
  · rw [List.mem_singleton.mp hp]
    rfl
  · have hy' : y ∈ [((PySem.Str.ofString ".0" : Str), NameKind.local), (PySem.Str.ofString "_law_tie_here", .local), (PySem.Str.ofString "_law_part_here", .free)] := hy
    simp only [List.mem_cons, List.not_mem_nil, or_false] at hy'
    rcases hy' with rfl | rfl | rfl <;> first | rfl | cases e
theorem ok_lb {f : Addr} {fd : FuncData} (F : Fun K "_law_bar" "_law_bar" sLb f fd) (T : Bi mg) : FnOk P w K mg base CX0 1 f fd ["_law_net_here", "_law_part_here"] spBr := by
  refine F.ok scLb (fun vs H Q E h => ?_) (fun cdv A outer s H vs Q E hr h => ?_)
  · obtain ⟨p, t, n, q, ts, es, s', rfl, _⟩ := h
    rfl
  · obtain ⟨p, t, n, qa, ts, es, st, rfl, N, ht, h3, h100, q⟩ := h
    refine ⟨_, pss_cons (ps_set (i := 2) scLb.nd rfl (Or.inl rfl) (pe_callB call_len_seq rfl T.len bLen (pa_c (pe_lcT blkLb rfl (pe_ix ix_tup (pv 0) pe_int (fun _ _ => rfl)) (mono_ixT (mono_var 0) (mono_c _)) (fun C fp s H => pg_name (i := 0) ndLb rfl (Or.inl rfl))
        (fun C fp s H => pts_one (PW.pt (pw_and (pt_cmpR (op_inQ (K := K) rfl) (pe_ix (ix_tupQ (K := K) rfl) (pv 0) pe_int (fun _ _ => rfl)) (pv 1) rfl) (pw_and1 (pt_cmpR (op_inQ (K := K) rfl) (pe_ix (ix_tupQ (K := K) rfl) (pv 0) pe_int (fun _ _ => rfl)) (pv 1) rfl))))) (fun C fp s H => pv 0)) pa_nil)))
      (pss_cons (ps_set (i := 3) scLb.nd rfl (Or.inl rfl) (pe_op op_fdiv (pe_op op_sub (pe_callB call_len_seq rfl T.len bLen (pa_c (pv 1) pa_nil)) pe_int) pe_int))
      (pss_cons (ps_if (pt_cmpR op_eq (pe_op op_mod (pv 2) (pv 3)) pe_int (nomark _)) (pss_one (ps_ret (pe_op op_fdiv (pv 2) (pv 3)))) pss_nil)
      (pss_one (ps_ret (pe_op op_add (pe_op op_fdiv (pv 2) (pv 3)) pe_int))))), ?_⟩
    have h200 := N.l200
    have hlen := N.len
    refine ⟨_, rfl, p, _, _, _, rfl, rfl, SqT.of N.e1, rfl, qa, _, rfl, SqT.of N.e2, by omega, fun i ys σ G => Same H G ∧ ys.length = insd es st i ∧ ∃ v0, σ = [v0, some (.ref t)], ⟨Same.refl _, rfl, none, rfl⟩, fun i ys σ G hi ⟨sG, e, _⟩ => ⟨SqT.of (sG _ _ N.e2), by rw [e]; exact insd_le _ _ _⟩, fun i x ys σ G hx ⟨sG, e1, v0, e⟩ => ?_, fun ys σ G ⟨sG, e1, _⟩ l G2 s2 hl => ?_⟩
    · subst e
      obtain ⟨a, rfl, ha⟩ := N.tie i x hx
      have haG := sG _ _ ha
      have htG := sG _ _ ht
      have hs := insd_succ es st i
      generalize (es.getD i (0, 0)).1 = A1 at *
      generalize (es.getD i (0, 0)).2 = B1 at *
      refine ⟨_, rfl, a, _, _, _, rfl, rfl, SqT.of haG, rfl, _, rfl, t, _, rfl, .inr (SqT.of htG), rfl, flat_nl _, _, rfl, ?_⟩
      refine ite2 (fun z => ?_) (fun z => ?_)
      · refine ⟨_, rfl, a, _, _, _, rfl, rfl, SqT.of haG, rfl, _, rfl, t, _, rfl, .inr (SqT.of htG), rfl, flat_nl _, _, rfl, ?_⟩
        have m1 : A1 ∈ st := (in_nl A1 st).mp z
        refine ite2 (fun z2 => ?_) (fun z2 => ?_)
        · have m2 : B1 ∈ st := (in_nl B1 st).mp z2
          refine ⟨_, rfl, sG, ?_, _, rfl⟩
          rw [hs, if_pos (by rw [decide_eq_true m1, decide_eq_true m2]; rfl), List.length_append, e1]
          rfl
        · refine ⟨sG, ?_, _, rfl⟩
          have m2 : B1 ∉ st := fun y => z2 ((in_nl B1 st).mpr y)
          rw [hs, if_neg (by rw [decide_eq_false m2, Bool.and_false]; decide), e1]
      · refine iteF ⟨sG, ?_, _, rfl⟩
        have m1 : A1 ∉ st := fun y => z ((in_nl A1 st).mpr y)
        rw [hs, if_neg (by rw [decide_eq_false m1, Bool.false_and]; decide), e1]
    · have sG2 := Same.trans sG s2
      obtain ⟨hc, hp⟩ := half_cast h3
      have hhl : half st ≤ 100 := by unfold half; omega
      refine ⟨l, _, rfl, .inl (SqL.of hl), ?_⟩
      refine ⟨_, rfl, t, _, rfl, .inr (SqT.of (sG2 _ _ ht)), _, _, rfl, rfl, _, _, rfl, rfl, ⟨by decide, by decide⟩, ?_⟩
      dsimp only [gName]
      rw [hc]
      rw [e1, hlen]
      have hb := bar_else (i := insd es st es.length) hp
      refine ⟨_, rfl, _, rfl, _, _, rfl, rfl, (by show (0 : Int) < (half st : Int); omega), rfl, _, rfl, ?_⟩
      have em : ((insd es st es.length : Nat) : Int) % (half st : Int) = ((insd es st es.length % half st : Nat) : Int) := rfl
      refine ite2 (fun z => ?_) (fun z => ?_)
      · have e0 : insd es st es.length % half st = 0 := by have := V.int.inj (of_decide_eq_true z); rw [em] at this; omega
        rw [if_pos e0] at hb
        refine ⟨_, rfl, _, rfl, _, _, rfl, rfl, ⟨by omega, by omega⟩, ?_⟩
        show Q (.int (((insd es st es.length : Nat) : Int) / (half st : Int))) G2
        rw [div_cast, ← hb]
        exact q G2 sG2
      · have e0 : ¬ insd es st es.length % half st = 0 := fun y => z (decide_eq_true (by show V.int (((insd es st es.length : Nat) : Int) % (half st : Int)) = V.int 0; rw [em, y]; rfl))
        rw [if_neg e0] at hb
        refine ⟨_, rfl, _, rfl, _, _, rfl, rfl, ⟨by omega, by omega⟩, _, _, rfl, rfl, ?_⟩
        show Q (.int (((insd es st es.length : Nat) : Int) / (half st : Int) + 1)) G2
        rw [div_cast, show (((insd es st es.length / half st : Nat) : Int) + 1) = ((insd es st es.length / half st + 1 : Nat) : Int) by omega, ← hb]
        exact q G2 sG2
end
end My
set_option Elab.async false
set_option linter.all false
set_option maxRecDepth 100000
set_option maxHeartbeats 4000000
namespace L2
open PySem PySem.Spec PyProof.Rows
theorem op_inK {X : Cx} {K : PySem.W.Frag} (hK : X.K = K) : OpR X (compareOp .In) (rIn K false) := by
  subst hK
  exact op_in_seq
theorem pg_tupK {X : Cx} {K : PySem.W.Frag} {es : List Expr} {k : Nat} {t : TGs} {n : Nat} {pos : Pos} (hK : X.K = K) (hc : X.calm = true) (h : PGs X es t) (h1 : (assignEach es X.env).length = n) (h2 : (assignEach es X.env).findIdx? (·.1) = none) : PG X (.Tuple es k pos) (gTup K n t) := by
  subst hK
  exact pg_tup hc h h1 h2
end L2
namespace My
open PySem L2
def ats (es : List (Nat × Nat)) (x : Nat) : List Nat := (List.range es.length).filter fun j => atB (es.getD j (0, 0)) x
theorem nl_app (l : List Nat) (x : Nat) : nl l ++ [V.int (x : Int)] = nl (l ++ [x]) := by unfold nl; rw [List.map_append]; rfl
theorem in_at (p : Nat) (e : Nat × Nat) : inV (.int (p : Int)) [.int (e.1 : Int), .int (e.2 : Int)] = true ↔ At e p := by
  unfold inV At
  simp only [List.any_cons, List.any_nil, Bool.or_false, eqV, Bool.or_eq_true]
  constructor
  · rintro (h | h)
    · left; have := eq_of_beq h; omega
    · right; have := eq_of_beq h; omega
  · rintro (h | h)
    · left; exact beq_iff_eq.mpr (by rw [h])
    · right; exact beq_iff_eq.mpr (by rw [h])
theorem lv_map (L : Nat → Nat) (n : Nat) : lv L n = ((List.range n).map fun p : Nat => (L p : Int)).map V.int := by
  unfold lv
  rw [List.map_map]
  rfl
theorem rep_zero (es : List (Nat × Nat)) (N : Nat) : (List.replicate N ([.int 0] : List V)).flatten = lv (dg es 0) N := by
  apply List.ext_getElem?
  intro i
  have hl : (List.replicate N ([.int 0] : List V)).flatten = List.replicate N (.int 0) := by
    induction N with
    | zero => rfl
    | succ n ih => rw [List.replicate_succ, List.flatten_cons, ih]; rfl
  rw [hl]
  by_cases hi : i < N
  · rw [lv_get _ hi, List.getElem?_replicate, if_pos hi]
    rfl
  · rw [List.getElem?_eq_none (by rw [List.length_replicate]; omega), List.getElem?_eq_none (by rw [lv_len]; omega)]
theorem lv_congr {L L' : Nat → Nat} (n : Nat) (h : ∀ p, L p = L' p) : lv L n = lv L' n := by rw [show L = L' from funext h]
theorem dg_two (es : List (Nat × Nat)) (k : Nat) (h : (es.getD k (0, 0)).1 ≠ (es.getD k (0, 0)).2) (p : Nat) :
    put (put (dg es k) (es.getD k (0, 0)).1 (dg es k (es.getD k (0, 0)).1 + 1)) (es.getD k (0, 0)).2 (put (dg es k) (es.getD k (0, 0)).1 (dg es k (es.getD k (0, 0)).1 + 1) (es.getD k (0, 0)).2 + 1) p = dg es (k + 1) p := by
  rw [dg_succ]
  unfold put atB
  by_cases h1 : p = (es.getD k (0, 0)).1
  · have h2 : ¬ p = (es.getD k (0, 0)).2 := fun z => h (h1.symm.trans z)
    rw [if_neg h2, if_pos h1, ← h1]
    simp
  · by_cases h2 : p = (es.getD k (0, 0)).2
    · rw [if_pos h2, if_neg (fun z => h z.symm), ← h2]
      simp
    · rw [if_neg h2, if_neg h1, beq_eq_false_iff_ne.mpr h1, beq_eq_false_iff_ne.mpr h2]
      rfl
def atsTo (es : List (Nat × Nat)) (x i : Nat) : List Nat := (List.range i).filter fun j => atB (es.getD j (0, 0)) x
theorem atsTo_in {es : List (Nat × Nat)} {x i : Nat} (h : At (es.getD i (0, 0)) x) : atsTo es x (i + 1) = atsTo es x i ++ [i] := by
  unfold atsTo
  rw [List.range_succ, List.filter_append, List.filter_cons, if_pos (atB_iff.mpr h)]
  rfl
theorem atsTo_out {es : List (Nat × Nat)} {x i : Nat} (h : ¬ At (es.getD i (0, 0)) x) : atsTo es x (i + 1) = atsTo es x i := by
  unfold atsTo
  rw [List.range_succ, List.filter_append, List.filter_cons, if_neg (fun z => h (atB_iff.mp z))]
  simp
theorem atsTo_len (es : List (Nat × Nat)) (x i : Nat) : (atsTo es x i).length ≤ i := by
  unfold atsTo
  exact Nat.le_trans (List.length_filter_le _ _) (by rw [List.length_range]; exact Nat.le_refl _)
section
variable {P : Program} {w : World} {K : PySem.W.Frag} {mg : Str → Option Value} {base : Heap}
abbrev sAt : Stmt := top 7
abbrev atScope : Scope := compScope (retE (stOf 7 0))
def spAt : Sp := fun vs H Q _ => ∃ (p : Addr) (n : Nat) (q : Addr) (ts : List V) (es : List (Nat × Nat)) (x : Nat), vs = [.ref p, .int (x : Int)] ∧ NetZ H p n q ts es ∧ ∀ H' t, Same H H' → H' t = some (.tup (nl (ats es x))) → Q (.ref t) H'
theorem ndAt : (["tie", "ends", "point"] : List Str).Nodup := by decide +kernel
theorem scAt : FnScope ["net", "point"] ["net", "point"] (defScope sAt) := ⟨rfl, rfl, rfl, by decide +kernel, rfl, by decide +kernel, by decide +kernel⟩
theorem blkAt {f : Addr} {cdv : Value} {A : Around} {outer : List Env} {s : Shared} {H : Hp} {E : XK} :
    Blk (cxOf CX0 P w K mg base ["net", "point"] "ties_at" (defScope sAt) f cdv A outer s H E).nox atScope [("point", s.heap.objs.size + 1)] ["tie", "ends", "point"] [none, none, some 1] := by
  refine ⟨rfl, rfl, by decide +kernel, by decide +kernel, fun p hp => ?_, fun y hy e => ?_, ⟨rfl, rfl, rfl⟩, trivial⟩
  · rw [List.mem_singleton.mp hp]
    rfl
  · have hy' : y ∈ [((PySem.Str.ofString ".0" : Str), NameKind.local), (PySem.Str.ofString "tie", .local), (PySem.Str.ofString "ends", .local), (PySem.Str.ofString "point", .free)] := hy
    simp only [List.mem_cons, List.not_mem_nil, or_false] at hy'
    rcases hy' with rfl | rfl | rfl | rfl <;> first | rfl | cases e
theorem ok_at {f : Addr} {fd : FuncData} (F : Fun K "ties_at" "ties_at" sAt f fd) (T : Bi mg) (hen : mg "enumerate" = none) : FnOk P w K mg base CX0 1 f fd ["net", "point"] spAt := by
  refine F.ok scAt (fun vs H Q E h => ?_) (fun cdv A outer s H vs Q E hr h => ?_)
  · obtain ⟨p, n, q, ts, es, x, rfl, _⟩ := h
    rfl
  · obtain ⟨p, n, qa, ts, es, x, rfl, N, q⟩ := h
    refine ⟨_, pss_one (ps_ret (pe_callTy call_tuple_ofS rfl T.tuple bTuple (pa_c (pe_lcE blkAt rfl rfl hen (pa_c (pe_ix ix_tup (pv 0) pe_int (fun _ _ => rfl)) pa_nil) (monoA_cons (mono_ixT (mono_var 0) (mono_c _)) monoA_nil) rfl
      (fun C fp s H => pg_tupK (K := K) (n := 2) rfl rfl (@pgs_cons _ _ _ _ _ (pg_name (i := 0) ndAt rfl (Or.inl rfl) (hf := Or.inr rfl)) (@pgs_cons _ _ _ _ _ (pg_name (i := 1) ndAt rfl (Or.inl rfl) (hf := Or.inr rfl)) pgs_nil rfl) rfl) rfl rfl)
      (fun C fp s H => pts_one (pt_cmpR (op_inK rfl) (pv 2) (pv 1) rfl)) (fun C fp s H => pv 0)) pa_nil))), ?_⟩
    refine ⟨_, rfl, p, _, _, _, rfl, rfl, SqT.of N.e1, rfl, qa, ts, rfl, SqT.of N.e2, (by have := N.len; have := N.l200; omega), fun i ys σ H' => Same H H' ∧ ys = nl (atsTo es x i) ∧ ∃ v0 v1, σ = [v0, v1, some (.int (x : Int))], ⟨Same.refl H, rfl, none, none, rfl⟩, fun i ys σ H' hi ⟨e1, e2, _⟩ => ?_, fun i y ys σ H' hx ⟨e1, e2, v0, v1, e3⟩ Tt H2 s2 hT => ?_, fun ys σ H' ⟨e1, e2, _⟩ l H2 s2 hl => ?_⟩
    · subst e2
      exact ⟨SqT.of (e1 _ _ N.e2), by rw [nl_len]; exact atsTo_len _ _ _⟩
    · subst e2 e3
      obtain ⟨a, rfl, ha⟩ := N.tie i y hx
      have ha2 := s2 _ _ (e1 _ _ ha)
      refine ⟨Tt, _, rfl, SqT.of hT, rfl, _, _, rfl, _, _, rfl, rfl, ?_⟩
      refine ⟨_, rfl, _, rfl, a, _, rfl, .inr (SqT.of ha2), rfl, rfl, _, rfl, ?_⟩
      refine ite2 (fun hh => ⟨_, rfl, Same.trans e1 s2, ?_, _, _, rfl⟩) (fun hh => ⟨Same.trans e1 s2, ?_, _, _, rfl⟩)
      · rw [atsTo_in ((in_at x (es.getD i (0, 0))).mp hh), ← nl_app]
      · rw [atsTo_out fun z => hh ((in_at x (es.getD i (0, 0))).mpr z)]
    · subst e2
      refine ⟨l, _, rfl, .inl hl, fun t H3 s3 ht => q H3 t (Same.trans (Same.trans e1 s2) s3) ?_⟩
      rw [ht, N.len]
      rfl
abbrev sMo : Stmt := top 9
def spMo : Sp := fun vs H Q _ => ∃ p n q ts es, vs = [.ref p] ∧ NetZ H p n q ts es ∧ ∀ H' M, Same H H' → IsMax (dl es n) M → Q (.int M) H'
theorem scMo : FnScope ["net", "crowds", "ends", "point"] ["net"] (defScope sMo) := ⟨rfl, rfl, rfl, by decide +kernel, rfl, by decide +kernel, by decide +kernel⟩
theorem ok_mo {f : Addr} {fd : FuncData} (F : Fun K "most_of" "most_of" sMo f fd) (T : Bi mg) : FnOk P w K mg base CX0 1 f fd ["net"] spMo := by
  refine F.ok scMo (fun vs H Q E h => ?_) (fun cdv A outer s H vs Q E hr h => ?_)
  · obtain ⟨p, n, q, ts, es, rfl, _⟩ := h
    rfl
  · obtain ⟨p, n, qa, ts, es, rfl, N, q⟩ := h
    refine ⟨_, pss_cons (ps_set (i := 1) scMo.nd rfl (Or.inl rfl) (pe_op op_rep (pe_lst (pa_c pe_int pa_nil)) (pe_ix ix_tup (pv 0) pe_int (fun _ _ => rfl))))
      (pss_cons (ps_for PassesOwn.never rfl (pi_tup (pe_ix ix_tup (pv 0) pe_int (fun _ _ => rfl))) (pg_name (i := 2) scMo.nd rfl (Or.inl rfl))
        (pss_one (ps_for PassesOwn.never rfl (pi_tup (pv 2)) (pg_name (i := 3) scMo.nd rfl (Or.inl rfl)) (pss_one (ps_augS (pv 1) (pv 3) get_list pe_int ip_add set_listN)))))
      (pss_one (ps_ret (pe_maxD (d := 0) rfl (pv 1) pe_int rfl T.max rfl)))), ?_⟩
    have h60 := N.n60
    refine ⟨(by show 1 ≤ sizeLine; decide), fun b hb => ?_⟩
    refine ⟨_, rfl, p, _, _, _, rfl, rfl, SqT.of (by rw [upd_ne (ne_of_none N.e1 hb)]; exact N.e1), rfl, b, (n : Int), _, rfl, rfl, upd_same, (by omega), (by omega), (by rw [sizeLine_eq]; show 1 * ((n : Int)).toNat ≤ _; omega), fun D hD => ?_⟩
    have s1 : Same H (upd (upd H b (.lst [.int 0])) D (.lst (List.replicate ((n : Int)).toNat ([.int 0] : List V)).flatten)) := Same.trans (same_new hb) (same_new hD)
    have hD0 : H D = none := (same_new hb).none hD
    rw [Int.toNat_natCast, rep_zero es]
    rw [Int.toNat_natCast, rep_zero es] at s1
    have step : ∀ (H2 : Hp) (g : Nat → Nat) (k : Nat), k < n → Same H H2 → H2 D = some (.lst (lv g n)) → ∀ (Q' : Hp → Prop), (∀ H3, Same H H3 → H3 D = some (.lst (lv (put g k (g k + 1)) n)) → Q' H3) →
        gGetL (.ref D) (.int (k : Int)) H2 fun x H3 => ipI (fun i j => i + j) x (.int 1) H3 fun z H5 => rSetN (.ref D) (.int (k : Int)) z H5 Q' := by
      intro H2 g k hk s2 hg Q' q'
      refine ⟨D, _, k, .int (g k : Int), rfl, rfl, hg, lv_get _ hk, (g k : Int), 1, rfl, rfl, D, _, k, rfl, rfl, hg, by rw [lv_len]; exact hk, q' _ (s2.wr hD0) ?_⟩
      rw [upd_same, ← lv_set]
      rfl
    refine ⟨_, rfl, p, _, _, _, rfl, rfl, SqT.of (s1 _ _ N.e1), rfl, qa, rfl, ⟨_, SqT.of (s1 _ _ N.e2)⟩, for_tup (K := K) (a := qa) (xs := ts) (fun i σ H' => (∃ v2 v3, σ = [some (.ref p), some (.ref D), v2, v3]) ∧ Same H H' ∧ H' D = some (.lst (lv (dg es i) n))) ⟨⟨_, _, rfl⟩, s1, upd_same⟩ (fun i σ H' _ z => SqT.of (z.2.1 _ _ N.e2)) (fun i x σ H' hx ⟨⟨v2, v3, e⟩, sH, hc⟩ => ?_) (fun σ H' ⟨⟨v2, v3, z1⟩, z2, z3⟩ => ?_)⟩
    · subst e
      obtain ⟨a, rfl, ha⟩ := N.tie i x hx
      have hlt : i < es.length := by rw [← N.len]; exact (List.getElem?_eq_some_iff.mp hx).1
      obtain ⟨a1, b1, ab⟩ := N.ok _ (getD_mem hlt)
      have tw := dg_two es i ab
      generalize hA : (es.getD i (0, 0)).1 = A1 at *
      generalize hB : (es.getD i (0, 0)).2 = B1 at *
      refine ⟨_, rfl, a, rfl, ⟨_, SqT.of (sH _ _ ha)⟩, for_tup (K := K) (a := a) (xs := [.int (A1 : Int), .int (B1 : Int)]) (fun j σ H2 => (∃ v3, σ = [some (.ref p), some (.ref D), some (.ref a), v3]) ∧ Same H H2 ∧ H2 D = some (.lst (lv (if j = 0 then dg es i else if j = 1 then put (dg es i) A1 (dg es i A1 + 1) else put (put (dg es i) A1 (dg es i A1 + 1)) B1 (put (dg es i) A1 (dg es i A1 + 1) B1 + 1)) n))) ⟨⟨v3, rfl⟩, sH, hc⟩ (fun j σ H2 _ z => SqT.of (z.2.1 _ _ ha)) (fun j y σ H2 hy ⟨⟨v3, e3⟩, s2, h2⟩ => ?_) (fun σ H2 ⟨⟨v3, e3⟩, s2, h2⟩ => ?_)⟩
      · subst e3
        match j, hy with
        | 0, hy =>
          cases hy
          exact ⟨_, rfl, _, rfl, step H2 _ A1 a1 s2 h2 _ fun H3 s3 h3 => ⟨⟨_, rfl⟩, s3, h3⟩⟩
        | 1, hy =>
          cases hy
          exact ⟨_, rfl, _, rfl, step H2 _ B1 b1 s2 h2 _ fun H3 s3 h3 => ⟨⟨_, rfl⟩, s3, h3⟩⟩
      · refine ⟨⟨_, _, e3⟩, s2, ?_⟩
        rw [h2, ← lv_congr n tw]
        rfl
    · subst z1
      rw [show ts.length = es.length from N.len, lv_map] at z3
      refine ⟨_, rfl, D, _, rfl, SqL.of z3, fun M hM => q H' M z2 hM⟩
abbrev sCr : Stmt := top 8
def spCr : Sp := fun vs H Q _ => ∃ (p : Addr) (n : Nat) (q : Addr) (ts : List V) (es : List (Nat × Nat)) (x : Nat), vs = [.ref p, .int (x : Int)] ∧ NetZ H p n q ts es ∧ ∀ H', Same H H' → Q (.int (dg es es.length x : Int)) H'
theorem scCr : FnScope ["net", "point"] ["net", "point"] (defScope sCr) := ⟨rfl, rfl, rfl, by decide +kernel, rfl, by decide +kernel, by decide +kernel⟩
theorem ok_cr {f : Addr} {fd : FuncData} (F : Fun K "crowd" "crowd" sCr f fd) (T : Bi mg) (FA : FnE P w K mg base "ties_at" ["net", "point"] 1 spAt) : FnOk P w K mg base CX0 2 f fd ["net", "point"] spCr := by
  refine F.ok scCr (fun vs H Q E h => ?_) (fun cdv A outer s H vs Q E hr h => ?_)
  · obtain ⟨p, n, q, ts, es, x, rfl, _⟩ := h
    rfl
  · obtain ⟨p, n, qa, ts, es, x, rfl, N, q⟩ := h
    refine ⟨_, pss_one (ps_ret (pe_callB call_len_seq rfl T.len bLen (pa_c (pe_fc FA hr (pa_c (pv 0) (pa_c (pv 1) pa_nil))) pa_nil))), ?_⟩
    refine ⟨_, rfl, _, rfl, p, n, qa, ts, es, x, rfl, N, fun H1 t s1 ht => ⟨t, _, rfl, .inr (SqT.of ht), ?_⟩⟩
    rw [nl_len]
    exact q H1 s1
def firsts (es : List (Nat × Nat)) (M : Int) (i : Nat) : List Nat := (List.range i).filter fun x => decide ((dg es es.length x : Int) = M)
theorem firsts_in {es : List (Nat × Nat)} {M : Int} {i : Nat} (h : (dg es es.length i : Int) = M) : firsts es M (i + 1) = firsts es M i ++ [i] := by
  unfold firsts
  rw [List.range_succ, List.filter_append, List.filter_cons, if_pos (decide_eq_true h)]
  rfl
theorem firsts_out {es : List (Nat × Nat)} {M : Int} {i : Nat} (h : ¬ (dg es es.length i : Int) = M) : firsts es M (i + 1) = firsts es M i := by
  unfold firsts
  rw [List.range_succ, List.filter_append, List.filter_cons, if_neg (fun z => h (of_decide_eq_true z))]
  simp
theorem firsts_len (es : List (Nat × Nat)) (M : Int) (i : Nat) : (firsts es M i).length ≤ i := by
  unfold firsts
  exact Nat.le_trans (List.length_filter_le _ _) (by rw [List.length_range]; exact Nat.le_refl _)
theorem firsts_ex {es : List (Nat × Nat)} {n : Nat} {M : Int} (h : IsMax (dl es n) M) (hn : 0 < n) : ∃ x, (firsts es M n)[0]? = some x := by
  rcases h with ⟨z, _⟩ | ⟨hm, _⟩
  · have := congrArg List.length z
    unfold dl at this
    rw [List.length_map, List.length_range, List.length_nil] at this
    omega
  · unfold dl at hm
    obtain ⟨x, hx, e⟩ := List.mem_map.mp hm
    have hf : x ∈ firsts es M n := List.mem_filter.mpr ⟨hx, decide_eq_true e⟩
    cases hc : firsts es M n with
    | nil => rw [hc] at hf; cases hf
    | cons y l => exact ⟨y, rfl⟩
def subC : Stmt → Scope
  | .Return (some (.Subscript (.ListComp _ _ s _) _ _)) _ => s
  | _ => { kind := .function, names := [], isGenerator := false, isCoroutine := false }
abbrev sFc : Stmt := top 14
abbrev fcS : Scope := subC (stOf 14 0)
def spFc : Sp := fun vs H Q _ => ∃ (p : Addr) (n : Nat) (q : Addr) (ts : List V) (es : List (Nat × Nat)) (M : Int), vs = [.ref p, .int M] ∧ NetZ H p n q ts es ∧ IsMax (dl es n) M ∧ 0 < n ∧ ∀ (H' : Hp) (x : Nat), Same H H' → (firsts es M n)[0]? = some x → Q (.int (x : Int)) H'
theorem ndFc : (["point", "most", "net"] : List Str).Nodup := by decide +kernel
theorem scFc : FnScope ["net", "most"] ["net", "most"] (defScope sFc) := ⟨rfl, rfl, rfl, by decide +kernel, rfl, by decide +kernel, by decide +kernel⟩
theorem blkFc {f : Addr} {cdv : Value} {A : Around} {outer : List Env} {s : Shared} {H : Hp} {E : XK} :
    Blk (cxOf CX0 P w K mg base ["net", "most"] "first_crowded" (defScope sFc) f cdv A outer s H E).nox fcS [("net", s.heap.objs.size + 1), ("most", s.heap.objs.size + 2)] ["point", "most", "net"] [none, some 1, some 0] := by
  refine ⟨rfl, rfl, by decide +kernel, by decide +kernel, fun p hp => ?_, fun y hy e => ?_, ⟨rfl, rfl, rfl⟩, ⟨rfl, rfl, rfl⟩, trivial⟩
  · simp only [List.mem_cons, List.not_mem_nil, or_false] at hp
    rcases hp with rfl | rfl <;> rfl
  · have hy' : y ∈ [((PySem.Str.ofString ".0" : Str), NameKind.local), (PySem.Str.ofString "point", .local), (PySem.Str.ofString "crowd", .globalImplicit), (PySem.Str.ofString "most", .free), (PySem.Str.ofString "net", .free)] := hy
    simp only [List.mem_cons, List.not_mem_nil, or_false] at hy'
    rcases hy' with rfl | rfl | rfl | rfl | rfl <;> first | rfl | cases e
theorem ok_fc {f : Addr} {fd : FuncData} (F : Fun K "first_crowded" "first_crowded" sFc f fd) (T : Bi mg) (FC : FnE P w K mg base "crowd" ["net", "point"] 2 spCr) : FnOk P w K mg base CX0 3 f fd ["net", "most"] spFc := by
  refine F.ok scFc (fun vs H Q E h => ?_) (fun cdv A outer s H vs Q E hr h => ?_)
  · obtain ⟨p, n, q, ts, es, M, rfl, _⟩ := h
    rfl
  · obtain ⟨p, n, qa, ts, es, M, rfl, N, hM, hn, q⟩ := h
    have h60 := N.n60
    refine ⟨_, pss_one (ps_ret (pe_ix ix_list (pe_lcR blkFc rfl rfl T.range (pa_c (pe_ix ix_tup (pv 0) pe_int (fun _ _ => rfl)) pa_nil) (monoA_cons (mono_ixT (mono_var 0) (mono_c _)) monoA_nil) rfl (fun C fp s H => pg_name (i := 0) ndFc rfl (Or.inl rfl))
      (fun C fp s H => pts_one (pt_cmpR op_eq (pe_fc FC hr (pa_c (pv 2) (pa_c (pv 0) pa_nil))) (pv 1) (nomark _))) (fun C fp s H => pv 0)) pe_int (fun _ _ => rfl))), ?_⟩
    obtain ⟨x, hx⟩ := firsts_ex hM hn
    refine ⟨_, rfl, p, _, _, _, rfl, rfl, SqT.of N.e1, rfl, n, rfl, by omega, fun i ys σ G => Same H G ∧ ys = nl (firsts es M i) ∧ ∃ v0, σ = [v0, some (.int M), some (.ref p)], ⟨Same.refl _, rfl, none, rfl⟩, fun i ys σ G hi ⟨_, e, _⟩ => (by rw [e, nl_len]; exact firsts_len _ _ _), fun i ys σ G hi ⟨sG, e1, v0, e⟩ => ?_, fun ys σ G ⟨sG, e1, _⟩ l G2 s2 hl => ?_⟩
    · subst e1 e
      refine ⟨_, rfl, _, rfl, p, n, qa, ts, es, i, (by rw [Int.zero_add]; rfl), N.same sG, fun G1 s1 => ⟨_, rfl, rfl, _, rfl, ?_⟩⟩
      have sG1 := Same.trans sG s1
      refine ite2 (fun z => ?_) (fun z => ?_)
      · have em : (dg es es.length i : Int) = M := V.int.inj (of_decide_eq_true z)
        refine ⟨_, rfl, sG1, ?_, _, rfl⟩
        rw [firsts_in em, ← nl_app, Int.zero_add]
      · have em : ¬ (dg es es.length i : Int) = M := fun y => z (decide_eq_true (by rw [y]))
        exact ⟨sG1, by rw [firsts_out em], _, rfl⟩
    · subst e1
      exact ⟨l, _, _, _, rfl, rfl, SqL.of hl, atI_nat (j := 0) (nl_get hx), q G2 x (Same.trans sG s2) hx⟩
end
end My
set_option Elab.async false
set_option linter.all false
set_option maxRecDepth 100000
set_option maxHeartbeats 4000000
namespace My
open PySem L2
def Rt (H : Hp) (d : Addr) (ls : List (List Nat)) : Prop := ∃ tr : List (Addr × List Nat), H d = some (.lst (tr.map fun x => V.ref x.1)) ∧ tr.map (·.2) = ls ∧ ∀ x ∈ tr, H x.1 = some (.tup (nl x.2))
def forC : Stmt → Scope
  | .For _ _ (.Assign _ (.BinOp _ _ (.ListComp _ _ s _) _) _ :: _) _ _ => s
  | _ => { kind := .function, names := [], isGenerator := false, isCoroutine := false }
def retC : Stmt → Scope
  | .Return (some (.ListComp _ _ s _)) _ => s
  | _ => { kind := .function, names := [], isGenerator := false, isCoroutine := false }
def isPart (l : List Nat) : Bool := decide (3 ≤ l.length) && decide (l.length % 2 = 1)
section
variable {P : Program} {w : World} {K : PySem.W.Frag} {mg : Str → Option Value} {base : Heap}
abbrev sPo : Stmt := top 13
abbrev nPo : List Str := ["net", "rows", "point"]
abbrev poS1 : Scope := forC (stOf 13 1)
abbrev poS2 : Scope := retC (stOf 13 2)
def spPo : Sp := fun vs H Q _ => ∃ (p : Addr) (n : Nat) (q : Addr) (ts : List V) (es : List (Nat × Nat)), vs = [.ref p] ∧ NetZ H p n q ts es ∧ n ≤ 9 ∧ ∀ H' d, Same H H' → Rt H' d (parts n) → Q (.ref d) H'
theorem ndP1 : (["row", "point"] : List Str).Nodup := by decide +kernel
theorem ndP2 : (["row"] : List Str).Nodup := by decide +kernel
theorem scPo : FnScope nPo ["net"] (defScope sPo) := ⟨rfl, rfl, rfl, by decide +kernel, rfl, by decide +kernel, by decide +kernel⟩
theorem blkP1 {f : Addr} {cdv : Value} {A : Around} {outer : List Env} {s : Shared} {H : Hp} {E : XK} :
    Blk (cxOf CX0 P w K mg base nPo "parts_of" (defScope sPo) f cdv A outer s H E).nox poS1 [("point", s.heap.objs.size + 1)] ["row", "point"] [none, some 2] := by
  refine ⟨rfl, rfl, by decide +kernel, by decide +kernel, fun p hp => ?_, fun y hy e => ?_, ⟨rfl, rfl, rfl⟩, trivial⟩
  · rw [List.mem_singleton.mp hp]
    rfl
  · have hy' : y ∈ [((PySem.Str.ofString ".0" : Str), NameKind.local), (PySem.Str.ofString "row", .local), (PySem.Str.ofString "point", .free)] := hy
    simp only [List.mem_cons, List.not_mem_nil, or_false] at hy'
    rcases hy' with rfl | rfl | rfl <;> first | rfl | cases e
theorem blkP2 {f : Addr} {cdv : Value} {A : Around} {outer : List Env} {s : Shared} {H : Hp} {E : XK} :
    Blk (cxOf CX0 P w K mg base nPo "parts_of" (defScope sPo) f cdv A outer s H E).nox poS2 [] ["row"] [none] := by
  refine ⟨rfl, rfl, by decide +kernel, by decide +kernel, fun p hp => (by cases hp), fun y hy e => ?_, trivial⟩
  have hy' : y ∈ [((PySem.Str.ofString ".0" : Str), NameKind.local), (PySem.Str.ofString "row", .local), (PySem.Str.ofString "len", .globalImplicit)] := hy
  simp only [List.mem_cons, List.not_mem_nil, or_false] at hy'
  rcases hy' with rfl | rfl | rfl <;> cases e
theorem ok_po {f : Addr} {fd : FuncData} (F : Fun K "parts_of" "parts_of" sPo f fd) (T : Bi mg) : FnOk P w K mg base CX0 1 f fd ["net"] spPo := by
  refine F.ok scPo (fun vs H Q E h => ?_) (fun cdv A outer s H vs Q E hr h => ?_)
  · obtain ⟨p, n, q, ts, es, rfl, _⟩ := h
    rfl
  · obtain ⟨p, n, qa, ts, es, rfl, N, n9, q⟩ := h
    refine ⟨_, pss_cons (ps_set (i := 1) scPo.nd rfl (Or.inl rfl) (pe_lstS (pa_c (pe_tupS pa_nil) pa_nil)))
      (pss_cons (ps_for PassesOwn.never rfl (pi_range1 rfl T.range (pa_c (pe_ix ix_tup (pv 0) pe_int (fun _ _ => rfl)) pa_nil)) (pg_name (i := 2) scPo.nd rfl (Or.inr rfl))
        (pss_one (ps_set (i := 1) scPo.nd rfl (Or.inl rfl) (pe_op op_catLS (pv 1) (pe_lcL blkP1 rfl (pv 1) (mono_var 1) (fun C fp s H => pg_name (i := 0) ndP1 rfl (Or.inl rfl)) (fun C fp s H => pts_nil) (fun C fp s H => pe_op op_catTS (pv 0) (pe_tupS (pa_c (pv 1) pa_nil))))))))
      (pss_one (ps_ret (pe_lcL blkP2 rfl (pv 1) (mono_var 1) (fun C fp s H => pg_name (i := 0) ndP2 rfl (Or.inl rfl))
        (fun C fp s H => pts_one (PW.pt (pw_and (pt_cmpR op_ge (pe_callB (call_lenK (K := K) rfl) rfl T.len bLen (pa_c (pv 0) pa_nil)) pe_int (nomark _)) (pw_and1 (pt_cmpR op_eq (pe_op op_mod (pe_callB (call_lenK (K := K) rfl) rfl T.len bLen (pa_c (pv 0) pa_nil)) pe_int) pe_int (nomark _)))))) (fun C fp s H => pv 0))))), ?_⟩
    have pow9 : ∀ k, k ≤ 9 → (subs k).length ≤ 512 := fun k hk => by
      rw [subs_len]
      exact Nat.pow_le_pow_right (n := 2) (by decide) hk
    refine ⟨rfl, fun e0 H1 s1 he => ⟨rfl, fun d0 H2 s2 hd => ?_⟩⟩
    have s02 := Same.trans s1 s2
    refine ⟨_, rfl, p, _, _, _, rfl, rfl, SqT.of (s02 _ _ N.e1), rfl, _, rfl, by omega, by omega, for_range (lo := 0) (n := ((n : Nat) : Int).toNat) (fun k σ G => ∃ d v2, σ = [some (.ref p), some (.ref d), v2] ∧ Same H G ∧ Rt G d (subs k))
      ⟨d0, _, rfl, s02, [(e0, [])], hd, rfl, fun x hx => by rw [List.mem_singleton.mp hx]; exact s2 _ _ he⟩ (fun k σ G hk ⟨d, v2, e, sG, hRt⟩ => ?_) (fun σ G ⟨d, v2, e, sG, hRt⟩ => ?_)⟩
    · subst e
      have hk9 : k < 9 := by omega
      obtain ⟨tr, h1, h2, h3⟩ := hRt
      have hl : tr.length ≤ 512 := by rw [← List.length_map (f := (·.2)), h2]; exact pow9 k (by omega)
      refine ⟨_, rfl, _, rfl, d, _, rfl, SqL.of h1, (by rw [List.length_map]; omega), fun i ys σ G' => Same G G' ∧ (∃ tr' : List (Addr × List Nat), ys = (tr'.map fun x => V.ref x.1) ∧ tr'.map (·.2) = ((tr.take i).map (·.2)).map (fun l => l ++ [k]) ∧ ∀ x ∈ tr', G' x.1 = some (.tup (nl x.2))) ∧ ∃ v0, σ = [v0, some (.int (0 + (k : Int)))],
        ⟨Same.refl _, ⟨[], rfl, rfl, fun x z => by cases z⟩, none, rfl⟩, fun i ys σ G' hi ⟨sG', ⟨tr', e1, e2, _⟩, _⟩ => ⟨SqL.of (sG' _ _ h1), ?_⟩, fun i x ys σ G' hx ⟨sG', ⟨tr', e1, e2, e3⟩, v0, e⟩ => ?_, fun ys σ G' ⟨sG', ⟨tr', e1, e2, e3⟩, _⟩ lb G2 s2 hlb => ?_⟩
      · have hle := congrArg List.length e2
        rw [List.length_map, List.length_map, List.length_map, List.length_take] at hle
        rw [e1, List.length_map]
        omega
      · subst e1 e
        rw [List.getElem?_map] at hx
        cases ht : tr[i]? with
        | none => rw [ht] at hx; cases hx
        | some y =>
          rw [ht] at hx
          cases hx
          have hy := sG' _ _ (h3 y (List.mem_of_getElem? ht))
          have hyl : y.2.length ≤ 9 := by
            have hm : y.2 ∈ subs k := by rw [← h2]; exact List.mem_map.mpr ⟨y, List.mem_of_getElem? ht, rfl⟩
            have := subs_short k _ hm
            omega
          refine ⟨_, rfl, _, rfl, rfl, fun t1 J1 u1 ht1 => ⟨y.1, t1, _, _, rfl, rfl, u1 _ _ hy, ht1, (by rw [nl_len, List.length_singleton]; omega), fun t2 J2 u2 ht2 => ?_⟩⟩
          have u12 := Same.trans u1 u2
          refine ⟨Same.trans sG' u12, ⟨tr' ++ [(t2, y.2 ++ [k])], by rw [List.map_append]; rfl, ?_, fun x hx => ?_⟩, _, rfl⟩
          · rw [List.map_append, e2, List.take_succ, ht, List.map_append, List.map_append]
            rfl
          · rcases List.mem_append.mp hx with z | z
            · exact u12 _ _ (e3 x z)
            · rw [List.mem_singleton.mp z]
              show J2 t2 = some (.tup (nl (y.2 ++ [k])))
              rw [ht2, ← nl_app, Int.zero_add]
      · subst e1
        rw [List.length_map, List.take_length, h2] at e2
        have hl' : tr'.length ≤ 512 := by
          have hle := congrArg List.length e2
          rw [List.length_map, List.length_map] at hle
          rw [hle]
          exact pow9 k (by omega)
        have sG2 := Same.trans sG' s2
        refine ⟨d, lb, _, _, rfl, rfl, sG2 _ _ h1, hlb, (by rw [List.length_map, List.length_map]; omega), fun d2 G3 s3 hd2 => ?_⟩
        refine ⟨d2, _, rfl, Same.trans sG (Same.trans sG2 s3), tr ++ tr', by rw [hd2, List.map_append], ?_, fun x hx => ?_⟩
        · rw [List.map_append, h2, e2]
          rfl
        · rcases List.mem_append.mp hx with z | z
          · exact s3 _ _ (sG2 _ _ (h3 x z))
          · exact s3 _ _ (s2 _ _ (e3 x z))
    · subst e
      rw [Int.toNat_natCast] at hRt
      obtain ⟨tr, h1, h2, h3⟩ := hRt
      have hl : tr.length ≤ 512 := by rw [← List.length_map (f := (·.2)), h2]; exact pow9 n n9
      refine ⟨_, rfl, d, _, rfl, SqL.of h1, (by rw [List.length_map]; omega), fun i ys σ G' => Same G G' ∧ ys = (((tr.take i).filter fun x => isPart x.2).map fun x => V.ref x.1) ∧ ∃ v0, σ = [v0],
        ⟨Same.refl _, rfl, none, rfl⟩, fun i ys σ G' hi ⟨sG', e1, _⟩ => ⟨SqL.of (sG' _ _ h1), ?_⟩, fun i x ys σ G' hx ⟨sG', e1, v0, e⟩ => ?_, fun ys σ G' ⟨sG', e1, _⟩ lb G2 s2 hlb => ?_⟩
      · rw [e1, List.length_map]
        exact Nat.le_trans (List.length_filter_le _ _) (List.length_take_le _ _)
      · subst e1 e
        rw [List.getElem?_map] at hx
        cases ht : tr[i]? with
        | none => rw [ht] at hx; cases hx
        | some y =>
          rw [ht] at hx
          cases hx
          have hy := sG' _ _ (h3 y (List.mem_of_getElem? ht))
          have htk : tr.take (i + 1) = tr.take i ++ [y] := by rw [List.take_succ, ht]; rfl
          have no : isPart y.2 = false → (((tr.take i).filter fun x => isPart x.2).map fun x => V.ref x.1) = (((tr.take (i + 1)).filter fun x => isPart x.2).map fun x : Addr × List Nat => V.ref x.1) := fun z => by
            rw [htk, List.filter_append, List.filter_cons, if_neg (by rw [z]; decide), List.filter_nil, List.append_nil]
          refine ⟨_, rfl, y.1, _, rfl, .inr (SqT.of hy), _, _, rfl, rfl, _, rfl, ?_⟩
          refine ite2 (fun z => ?_) (fun z => ?_)
          · have z1 : 3 ≤ y.2.length := by have := of_decide_eq_true z; rw [nl_len] at this; omega
            refine ⟨_, rfl, y.1, _, rfl, .inr (SqT.of hy), _, _, rfl, rfl, (by show (0 : Int) < 2; decide), rfl, _, rfl, ?_⟩
            have em : ((((nl y.2).length : Nat) : Int) % 2) = ((y.2.length % 2 : Nat) : Int) := by rw [nl_len]; rfl
            refine ite2 (fun z2 => ?_) (fun z2 => ?_)
            · have z3 : y.2.length % 2 = 1 := by have := V.int.inj (of_decide_eq_true z2); rw [em] at this; omega
              refine ⟨_, rfl, sG', ?_, _, rfl⟩
              rw [htk, List.filter_append, List.filter_cons, if_pos (by unfold isPart; rw [decide_eq_true z1, decide_eq_true z3]; rfl), List.map_append]
              rfl
            · have z3 : ¬ y.2.length % 2 = 1 := fun w => z2 (decide_eq_true (by show V.int ((((nl y.2).length : Nat) : Int) % 2) = V.int 1; rw [em, w]; rfl))
              exact ⟨sG', no (by unfold isPart; rw [decide_eq_false z3, Bool.and_false]), _, rfl⟩
          · have z1 : ¬ 3 ≤ y.2.length := fun w => z (decide_eq_true (by show (3 : Int) ≤ (((nl y.2).length : Nat) : Int); rw [nl_len]; omega))
            exact iteF ⟨sG', no (by unfold isPart; rw [decide_eq_false z1, Bool.false_and]), _, rfl⟩
      · subst e1
        rw [List.length_map, List.take_length] at hlb
        refine q G2 lb (Same.trans sG (Same.trans sG' s2)) ⟨tr.filter fun x => isPart x.2, hlb, ?_, fun x hx => s2 _ _ (sG' _ _ (h3 x (List.mem_filter.mp hx).1))⟩
        show _ = (subs n).filter isPart
        rw [← h2, List.filter_map]
        rfl
end
end My
set_option maxHeartbeats 4000000
namespace RX
open PySem PySem.Spec PyProof.Rows
def TrD (h base : Heap) (e : Addr) (cls : Value) (od : Option Addr) (fl : Value) : Prop :=
  ∃ oe vs T oT ts, h.get? e = some oe ∧ (oe.cls = cls ∧ oe.dict = od) ∧ oe.data = .fields vs ∧ vs[1]? = some (.ref T) ∧ base.get? T = none ∧ T ≠ e ∧ h.get? T = some oT ∧ oT.data = .fields ts ∧ ts[3]? = some fl
structure Fl (base : Heap) (l : List Env) (e : Addr) (cls : Value) (od : Option Addr) (fl : Value) (h : Heap) : Prop where
  stays : base.StaysIn h
  new : base.get? e = none
  frames : h.FunFrames base l
  trace : TrD h base e cls od fl
theorem dict_mapFields (f : Array Value → Array Value) (o : Obj) : (o.mapFields f).dict = o.dict := by
  unfold Obj.mapFields
  split <;> rfl
section
variable {M : Model} {A : Around} {E : Value → Shared → Prop} {s : Shared} {base : Heap} {env : Env} {outer l : List Env} {L e : Addr} {cls fl : Value} {od : Option Addr} {Q : Unit → Shared → Prop}
theorem entry_at {oe : Obj} {vs : Array Value} {head : Value} {hadNext : Bool}
    (hfr : A.frames = some (env :: outer)) (hl : s.heap.FunFrames base (env :: outer)) (hf : env.frame = some L)
    (he : s.heap.get? e = some oe) (hkb : base.StaysIn s.heap) (hen : base.get? e = none) (hd : oe.data = .fields vs) (hsz : 1 < vs.size)
    (h : ∀ h', Fl base (env :: outer) e oe.cls oe.dict (rawInt L) h' → s.heap.UpToSlots h' → Q () { s with heap := h' }) :
    wpAny M A (do let a ← frameOf env; let pl ← entryPlaceOf L hadNext; let b ← EntryCells.newEntry head a .none (rawInt L) .none pl; setField (.ref e) 1 b) Q E s := by
  have out : e ∉ (env :: outer).filterMap (·.frame) := fun hm => by
    obtain ⟨_, o, ho, hnf⟩ := hl.mem hm
    rw [he] at ho; injection ho with ho; subst ho; exact hnf vs hd
  refine wpAny_bind (wpAny_frameOf_fun hfr hl hf fun h₁ hs₁ => ?_)
  refine wpAny_bind (wpAny_entryPlaceOf fun pl hpl => ?_)
  unfold EntryCells.newEntry newFields
  refine wpAny_bind (wpAny_newObj_type ?_ (hpl.sizeOk5 _ _ _ _ _))
  have he₁ : h₁.get? e = some oe := (hs₁.2.1 e out).trans he
  have kb₁ : base.StaysIn h₁ := fun b o hbo => (hs₁.2.1 b fun hm => by rw [(hl.mem hm).1] at hbo; cases hbo).trans (hkb b o hbo)
  generalize hot : ({ cls := .type "traceback", dict := none, data := .fields ([head, .ref L, .none, rawInt L, .none] ++ (if pl.isEmpty then List.replicate 6 Value.none else pl)).toArray } : Obj) = ot
  have hotd : ot.data = .fields ([head, .ref L, .none, rawInt L, .none] ++ (if pl.isEmpty then List.replicate 6 Value.none else pl)).toArray := by rw [← hot]
  have hotf : ot.isFreed = false := by rw [← hot]; rfl
  have he₂ := Heap.get?_push_of_some (h := h₁) ot he₁
  refine wpAny_setField he₂ hd hsz ?_
  have hTe : h₁.objs.size ≠ e := Nat.ne_of_gt (Heap.lt_size he₁)
  have hd₃ := Obj.data_mapFields hd (·.setIfInBounds 1 (Value.ref h₁.objs.size))
  have he₃ := Heap.get?_update_self (Obj.mapFields (·.setIfInBounds 1 (Value.ref h₁.objs.size))) he₂ (Obj.isFreed_of_fields hd₃)
  have hT₃ := (Heap.get?_update_other (h₁.push ot) (Obj.mapFields (·.setIfInBounds 1 (Value.ref h₁.objs.size))) (Ne.symm hTe)).trans (Heap.get?_push_size h₁ hotf)
  have keep : ∀ b o, b ≠ e → h₁.get? b = some o → ((h₁.push ot).update e (Obj.mapFields (·.setIfInBounds 1 (Value.ref h₁.objs.size)))).get? b = some o := fun b o hbe hb => by
    rw [Heap.get?_update_other _ _ (Ne.symm hbe)]
    exact Heap.get?_push_of_some _ hb
  have notE : ∀ b o, s.heap.get? b = some o → (∀ vs, o.data ≠ .fields vs) → b ≠ e := fun b o hb hnf q => by
    rw [q, he] at hb; injection hb with hb; subst hb; exact hnf vs hd
  refine h _ ⟨fun b o hbo => keep b o (fun q => by rw [q, hen] at hbo; cases hbo) (kb₁ b o hbo), hen, hl.of_keeps fun b o hb hnf => ?_, ?_⟩ fun b o hb hnf => ?_
  · obtain ⟨sl, hs⟩ := hs₁.2.2 b o hb
    exact ⟨_, keep b _ (notE b o hb hnf) hs, rfl⟩
  · exact ⟨_, _, h₁.objs.size, _, _, he₃, ⟨Obj.cls_mapFields _ _, dict_mapFields _ _⟩, hd₃, by simp [hsz], kb₁.fresh, hTe, hT₃, hotd, by first | (simp; done) | (rcases hpl with rfl | ⟨_, _, _, _, _, _, _, rfl⟩ <;> simp)⟩
  · obtain ⟨sl, hs⟩ := hs₁.2.2 b o hb
    exact ⟨sl, keep b _ (notE b o hb hnf) hs⟩
theorem note_first {oe : Obj} {vs : Array Value} (hfr : A.frames = some (env :: outer)) (hl : s.heap.FunFrames base (env :: outer)) (hf : env.frame = some L)
    (he : s.heap.get? e = some oe) (hkb : base.StaysIn s.heap) (hen : base.get? e = none) (hd : oe.data = .fields vs) (h1 : vs[1]? = some .none)
    (h : ∀ h', Fl base (env :: outer) e oe.cls oe.dict (rawInt L) h' → s.heap.UpToSlots h' → Q () { s with heap := h' }) : wpAny M A (noteFrame (.ref e) env) Q E s := by
  unfold noteFrame
  simp only [hf]
  refine wpAny_bind (wpAny_field he hd h1 ?_)
  rw [if_neg (by decide)]
  exact entry_at hfr hl hf he hkb hen hd (Array.getElem?_eq_some_iff.mp h1).1 h
theorem note_on (hfr : A.frames = some (env :: outer)) (hf : env.frame = some L) (x : Fl base (env :: outer) e cls od .none s.heap)
    (h : ∀ h', Fl base (env :: outer) e cls od (rawInt L) h' → s.heap.UpToSlots h' → Q () { s with heap := h' }) : wpAny M A (noteFrame (.ref e) env) Q E s := by
  obtain ⟨hkb, hen, hl, oe, vs, T, oT, ts, he, ⟨hc, hdd⟩, hd, h1, hnT, hTe, hT, hdT, h3⟩ := x
  subst hc hdd
  unfold noteFrame
  simp only [hf]
  refine wpAny_bind (wpAny_field he hd h1 ?_)
  rw [if_pos (show (Value.ref T != Value.none) = true from by simp)]
  refine wpAny_bind (wpAny_field hT hdT h3 ?_)
  rw [if_neg (show ¬ ((Value.none == rawInt L) = true) from by simp [rawInt])]
  refine wpAny_bind (wpAny_setField hT hdT (Array.getElem?_eq_some_iff.mp h3).1 ?_)
  have other : ∀ b, b ≠ T → (s.heap.update T (Obj.mapFields (·.setIfInBounds 3 Value.none))).get? b = s.heap.get? b := fun b hb => Heap.get?_update_other _ _ (Ne.symm hb)
  have notT : ∀ b o, s.heap.get? b = some o → (∀ vs, o.data ≠ .fields vs) → b ≠ T := fun b o hb hnf q => by
    rw [q, hT] at hb; injection hb with hb; subst hb; exact hnf ts hdT
  refine entry_at hfr (hl.of_keeps fun b o hb hnf => ⟨o, (other b (notT b o hb hnf)).trans hb, rfl⟩) hf ((other e (Ne.symm hTe)).trans he)
    (fun b o hbo => (other b fun q => by rw [q, hnT] at hbo; cases hbo).trans (hkb b o hbo)) hen hd (Array.getElem?_eq_some_iff.mp h1).1
    fun h' x1 x2 => h h' x1 fun b o hb hnf => x2 b o ((other b (notT b o hb hnf)).trans hb) hnf
theorem flight_off (x : Fl base l e cls od fl s.heap)
    (h : ∀ h', Fl base l e cls od .none h' → s.heap.UpToSlots h' → Q () { s with heap := h' }) : wpAny M A (setFlight (.ref e) none) Q E s := by
  obtain ⟨hkb, hen, hl, oe, vs, T, oT, ts, he, hcd, hd, h1, hnT, hTe, hT, hdT, h3⟩ := x
  have hsz3 : 3 < ts.size := (Array.getElem?_eq_some_iff.mp h3).1
  have other : ∀ b, b ≠ T → (s.heap.update T (Obj.mapFields (·.setIfInBounds 3 ((none : Option Addr).elim Value.none fun f => rawInt f)))).get? b = s.heap.get? b :=
    fun b hb => Heap.get?_update_other _ _ (Ne.symm hb)
  have notT : ∀ b o, s.heap.get? b = some o → (∀ vs, o.data ≠ .fields vs) → b ≠ T := fun b o hb hnf q => by
    rw [q, hT] at hb; injection hb with hb; subst hb; exact hnf ts hdT
  unfold setFlight
  refine wpAny_bind (wpAny_field he hd h1 ?_)
  rw [if_pos (show (Value.ref T != Value.none) = true from by simp)]
  refine wpAny_setField hT hdT hsz3 (h _ ⟨fun b o hbo => (other b fun q => by rw [q, hnT] at hbo; cases hbo).trans (hkb b o hbo), hen,
    hl.of_keeps fun b o hb hnf => ⟨o, (other b (notT b o hb hnf)).trans hb, rfl⟩, ?_⟩ fun b o hb hnf => ⟨o.slots, (other b (notT b o hb hnf)).trans hb⟩)
  exact ⟨oe, vs, T, _, _, (other e (Ne.symm hTe)).trans he, hcd, hd, h1, hnT, hTe, Heap.get?_update_self _ hT (Obj.isFreed_of_fields (Obj.data_mapFields hdT _)), Obj.data_mapFields hdT _, by simp [hsz3]⟩
theorem Fl.tail (x : Fl base (env :: outer) e cls od fl s.heap) : Fl base outer e cls od fl s.heap :=
  let ⟨k1, k2, ⟨_, _, k3⟩, k4⟩ := x
  ⟨k1, k2, k3, k4⟩
theorem leave_first {oe : Obj} {vs : Array Value} (hfr : A.frames = some (env :: outer)) (hl : s.heap.FunFrames base (env :: outer)) (hf : env.frame = some L)
    (he : s.heap.get? e = some oe) (hkb : base.StaysIn s.heap) (hen : base.get? e = none) (hd : oe.data = .fields vs) (h1 : vs[1]? = some .none)
    (h : ∀ h', Fl base outer e oe.cls oe.dict .none h' → s.heap.UpToSlots h' → Q () { s with heap := h' }) : wpAny M A (leaving env (.ref e)) Q E s := by
  unfold leaving
  refine wpAny_bind (note_first hfr hl hf he hkb hen hd h1 fun h₁ x₁ u₁ => ?_)
  refine flight_off (s := { s with heap := h₁ }) x₁ fun h₂ x₂ u₂ => h h₂ (Fl.tail (s := { s with heap := h₂ }) x₂) (u₁.trans u₂)
end
end RX
set_option maxHeartbeats 4000000
namespace RX
open PySem PySem.Spec PyProof.Rows L2
def CXe (P : Program) (w : World) : CXT := fun outer H s E ev s' =>
  ∃ e cls od H' B, ev = .ref e ∧ s'.os = s.os ∧ AllBare s'.gens ∧ Un (frs outer) [] H H' s.heap s'.heap ∧ HOk P w H' s'.heap ∧ Fl B outer e cls od .none s'.heap ∧
    (∀ b o, s.heap.get? b = some o → b ∉ frs outer → ∃ o', B.get? b = some o') ∧ (∀ b u, H' b = some u → ∃ o, B.get? b = some o) ∧ E cls od H'
theorem same_of_stays {B h : Heap} {b : Addr} {o o' : Obj} (k : B.StaysIn h) (e : B.get? b = some o') (q : h.get? b = some o) : B.get? b = some o := by
  have := k b o' e
  rw [q] at this; cases this; exact e
theorem hok_stays {P : Program} {w : World} {H : Hp} {B h h' : Heap} (x : HOk P w H h) (k : ∀ b u, H b = some u → ∃ o, B.get? b = some o) (s1 : B.StaysIn h) (s2 : B.StaysIn h') : HOk P w H h' := fun a u e => by
  refine (x a u e).stay (fun b v hb q => ?_) (fun _ q => q) fun _ _ q => q
  have go : ∀ z, H b = some z → h'.get? b = some v := fun z r => by
    obtain ⟨o, ho⟩ := k b z r
    exact s2 b v (same_of_stays s1 ho q)
  rcases hb with rfl | hb
  · exact go u e
  · exact go _ hb
section
variable {X : Cx} {pins : List (Addr × Obj)} {σ : L2.St} {H : Hp} {s s' : Shared} {E E' : XK} {ev : Value} {M : Model} {EE : Value → Shared → Prop}
theorem mem_stack (hst : X.stack = X.env :: X.outer) (hf : X.env.frame = some X.env.locals) {b : Addr} (h : b ∈ frs X.stack) : b = X.env.locals ∨ b ∈ frs X.outer := by
  rw [hst] at h
  unfold frs at h
  rw [List.filterMap_cons, hf] at h
  exact List.mem_cons.mp h
theorem mem_stack_of (hst : X.stack = X.env :: X.outer) {b : Addr} (h : b ∈ frs X.outer) : b ∈ frs X.stack := by
  rw [hst]
  unfold frs at h ⊢
  rw [List.filterMap_cons]
  split
  · exact h
  · exact List.mem_cons_of_mem _ h
end
end RX
set_option maxHeartbeats 4000000
set_option maxRecDepth 100000
namespace RX
open PySem PySem.Spec PyProof.Rows L2 PySem.W
open Builtin Builtin.ObjectAttr
abbrev veMro : List Value := [.type "ValueError", .type "Exception", .type "BaseException", .type "object"]
def strKey (e : DictEntry) : Bool := match e.key with | .str _ _ => true | _ => false
def xcIn (K : Frag) (C D : Addr) : Bool := match K.lookup C, K.lookup D with
  | some ⟨c, _, .cls cd, sl⟩, some ⟨_, _, .cls dd, _⟩ => c == .type "type" && cd.mro == .ref C :: .ref D :: veMro && !cd.hasDel && cd.hasDict && sl.toList.length == 6 && (sl.toList[4]?).join == some (.builtin "ValueError.__new__") &&
      (match K.lookup dd.ns with | some ⟨_, _, .dict es _, _⟩ => es.toList.all strKey && (nsFind es "__init__").isNone | _ => false)
  | _, _ => false
theorem strKeys_of {es : Array DictEntry} (h : es.toList.all strKey = true) : StrKeys es := by
  intro e he
  have q : strKey e = true := List.all_eq_true.mp h e (by simpa using he)
  unfold strKey at q
  split at q
  · rename_i n t hk; exact ⟨n, t, hk⟩
  · cases q
def ClsAt (h : Heap) (C D : Addr) : Prop := OwnTail h veMro (.ref D :: veMro) ∧ ∃ nm q N bs sn sub ab col dd k0 k1 k2 k3 k5, h.get? C = some (excClassObj nm q C N bs (.ref D :: veMro) true sn sub ab col dd k0 k1 k2 k3 k5 "ValueError.__new__")
theorem clsAt_of {K : Frag} {h : Heap} {C D : Addr} (X : K.In h) (e : xcIn K C D = true) : ClsAt h C D := by
  unfold xcIn at e
  split at e
  · rename_i c dd cd sl c2 d2 dd2 sl2 hC hD
    simp only [Bool.and_eq_true, Bool.not_eq_true', beq_iff_eq] at e
    obtain ⟨⟨⟨⟨⟨⟨e1, e2⟩, e3⟩, e4⟩, e5⟩, e6⟩, e7⟩ := e
    split at e7
    · rename_i c3 d3 es n3 sl3 hN
      rw [Bool.and_eq_true] at e7
      refine ⟨.own (X _ _ hD) ⟨_, es, n3, X _ _ hN, rfl, strKeys_of e7.1, fun _ => rfl⟩ (by simpa using e7.2) .base, ?_⟩
      obtain ⟨nm, bs, mro, ns, qn, hd, sn, sub, ab, col, hdel⟩ := cd
      dsimp only at e2 e3 e4
      subst e1 e2 e3 e4
      obtain ⟨l⟩ := sl
      match l, e5, e6 with
      | [k0, k1, k2, k3, k4, k5], _, e6 =>
        have e6' : k4 = some (.builtin "ValueError.__new__") := by simpa using e6
        subst e6'
        exact ⟨_, _, _, _, _, _, _, _, _, _, _, _, _, _, X _ _ hC⟩
    · cases e7
  · cases e
theorem ClsAt.keeps {h h' : Heap} {C D : Addr} (x : ClsAt h C D) (k : ∀ b o, h.get? b = some o → h'.get? b = some o) : ClsAt h' C D := by
  obtain ⟨T, nm, q, N, bs, sn, sub, ab, col, dd, k0, k1, k2, k3, k5, hC⟩ := x
  exact ⟨T.keeps k, _, _, _, _, _, _, _, _, _, _, _, _, _, _, k _ _ hC⟩
section
variable {prog : Program} {w : World} {A : Around} {E : Value → Shared → Prop} {h : Heap} {g : Array GenState} {d : Drawn} {t : Nat} {os : OsState} {C D : Addr}
abbrev rawArgs (rest : List Value) : Obj := { cls := .type "tuple", data := .seq rest.toArray }
abbrev rawF (t : Addr) : Array Value := #[.ref t, .none, .none, .none, .bool false, .none]
abbrev rawX (C t : Addr) : Obj := { cls := .ref C, data := .fields (rawF t) }
theorem type_call_init {rest : List Value} {fI : Addr} {Q : Fin → Shared → Prop} (hc : ClsAt h C D) (hi : Looks (model prog w) h (typeLookup (.ref C) "__init__") (some (.ref fI)))
    (hb : ∀ self, Looks (model prog w) h (bindSpecial (.ref fI) self) (.ref fI, [self]))
    (hq : wpAny (model prog w) A (call (.ref fI) (.ref (h.objs.size + 1) :: rest)) (fun r s' => r = .none ∧ Q (.done (.ret (.ref (h.objs.size + 1)))) s') E
      ⟨(h.push (rawArgs rest)).push (rawX C h.objs.size), g, d, t, os⟩) (hrest : rest.length ≤ sizeLine) :
    wpAny (model prog w) A (Builtin.«type.__call__» ⟨.ref C :: rest, []⟩) Q E ⟨h, g, d, t, os⟩ := by
  obtain ⟨T, nm, q, N, bs, sn, sub, ab, col, dd, k0, k1, k2, k3, k5, hC⟩ := hc
  have F := PySem.F.excBase_ValueError
  repeat (first | with_reducible refine wpAny_loadPart_at hC ?_ | with_reducible refine wpAny_madeBy_exc hC ?_ | wp_step)
  refine codeAny_call_builtin_code (Code.quiet_builtin _ F.quiet) (wpAny_check_new_subT F T hC ?_)
  refine codeAny_exc_new_subT F T hC ?_ hrest
  show wpAny _ _ _ _ _ _
  have k : ∀ b o, h.get? b = some o → ((h.push (rawArgs rest)).push (rawX C h.objs.size)).get? b = some o := fun b o e => Heap.get?_push_of_some _ (Heap.get?_push_of_some _ e)
  have hC₁ := Heap.get?_push_of_some { cls := .ref C, data := .fields #[.ref h.objs.size, .none, .none, .none, .bool false, .none] } (Heap.get?_push_of_some { cls := .type "tuple", data := .seq rest.toArray } hC)
  have hget : ((h.push { cls := .type "tuple", data := .seq rest.toArray }).push { cls := .ref C, data := .fields #[.ref h.objs.size, .none, .none, .none, .bool false, .none] }).get? (h.objs.size + 1) = some
      { cls := .ref C, data := .fields #[.ref h.objs.size, .none, .none, .none, .bool false, .none] } := by heap_get
  have hcC : (Value.ref C :: Value.ref D :: veMro).contains (.ref C) = true := by simp
  have hi₁ := hi.keeps k
  have hb₁ := (hb (.ref (h.objs.size + 1))).keeps k
  unfold isInstance
  repeat (first | with_reducible refine wpAny_loadPart_at hget ?_ | (with_reducible refine wpAny_isSubtype_exc hC₁ ?_; rw [hcC]) | wp_step)
  show wpAny _ _ (typeLookup (.ref C) _) _ _ _
  refine hi₁.here (s := ⟨(h.push (rawArgs rest)).push (rawX C h.objs.size), g, d, t, os⟩) ?_
  refine wpAny_holding (wpAny_bind (hb₁.here (s := ⟨(h.push (rawArgs rest)).push (rawX C h.objs.size), g, d, t, os⟩) ?_))
  refine wpAny_bind (wpAny_mono hq (fun r s' hr => ?_) fun _ _ x => x)
  obtain ⟨rfl, hQ⟩ := hr
  wp_walk
  exact hQ
theorem call_exc_init {rest : List Value} {fI : Addr} {Q : Value → Shared → Prop} (hc : ClsAt h C D) (hi : Looks (model prog w) h (typeLookup (.ref C) "__init__") (some (.ref fI)))
    (hb : ∀ self, Looks (model prog w) h (bindSpecial (.ref fI) self) (.ref fI, [self]))
    (hq : wpAny (model prog w) (A.under (.builtin "type.__call__" ⟨.ref C :: rest, []⟩)) (call (.ref fI) (.ref (h.objs.size + 1) :: rest)) (fun r s' => r = .none ∧ Q (.ref (h.objs.size + 1)) s') E
      ⟨(h.push (rawArgs rest)).push (rawX C h.objs.size), g, d, t, os⟩) (hrest : rest.length ≤ sizeLine) :
    wpAny (model prog w) A (call (.ref C) rest) Q E ⟨h, g, d, t, os⟩ := by
  obtain ⟨T, nm, q, N, bs, sn, sub, ab, col, dd, k0, k1, k2, k3, k5, hC⟩ := id hc
  have f1 := tc_lookup
  have f2 := tc_bind (.ref C)
  have hT : (⟨h, g, d, t, os⟩ : Shared).TypeIs (.ref C) "type" := ⟨_, hC, rfl⟩
  refine wpAny_call (codeAny_of_tree ?_)
  show wpAny _ _ (callAny (.ref C) _) _ _ _
  repeat (any_goals (first | assumption | with_reducible refine wpAny_loadPart_at hC ?_ | wp_step))
  refine ⟨rfl, ?_⟩
  refine codeAny_call_builtin_at (Code.quiet_builtin _ (by decide +kernel)) entry_typeCall (wpAny_check_type_call_sub hC (type_call_init hc hi hb ?_ hrest))
  exact hq
end
section
variable {prog : Program} {w : World} {A : Around} {E : Value → Shared → Prop} {K : Frag} {C D x : Addr} {s : Shared}
theorem store_x {vs : Array Value} {name : Str} {v : Value} {Q : Unit → Shared → Prop} (X : K.In s.heap) (hc : xcIn K C D = true) (hs : findIn K (.ref C) "__setattr__" = some (some (.builtin "object.__setattr__"))) (ha : findIn K (.ref C) name = some none)
    (hx : s.heap.get? x = some ⟨.ref C, none, .fields vs, #[]⟩)
    (hq : ∀ h' tk, h'.get? x = some ⟨.ref C, some s.heap.objs.size, .fields vs, #[]⟩ → h'.Ns1 s.heap.objs.size (fun y => if y = name then some v else none) → (∀ b o, b ≠ x → s.heap.get? b = some o → h'.get? b = some o) → Q () { s with heap := h', toks := tk }) :
    wpAny (model prog w) A (setAttr (.ref x) name v) Q E s := by
  have SF := PySem.F.store_ValueError
  have I : InstAt s.heap x ⟨.ref C, none, .fields vs, #[]⟩ C none := ⟨hx, rfl, rfl, trivial⟩
  refine set_plain X I hs ?_
  obtain ⟨T, nm, q, N, bs, sn, sub, ab, col, dd, k0, k1, k2, k3, k5, hC⟩ := clsAt_of X hc
  obtain ⟨h, g, d, t, os⟩ := s
  have hm : Looks (model prog w) h (mroOf (.ref C)) (.ref C :: .ref D :: veMro) := ((Looks.ld (part := none) hC).andThen .now).andThen .now
  have sub' : Looks (model prog w) h (isInstance (.ref x) (.type "object")) true := I.type.andThen (by
    unfold isSubtype
    exact hm.andThen .now)
  refine codeAny_call_builtin SF.slot.plain SF.entry (@check_slot (model prog w) _ _ ⟨h, g, d, t + 1, os⟩ "object.__setattr__" "object" "__setattr__" (.ref x) [.str name t, v] [] _ SF.kind SF.split sub' (SF.args (.ref x) (.str name t) v) ?_)
  rw [osa_eq, refuse_eq]
  refine wpAny_bind (wpAny_bind (I.type.here (s := ⟨h, g, d, t + 1, os⟩) (wpAny_bind (hm.here (s := ⟨h, g, d, t + 1, os⟩) ?_))))
  rw [refuseLoop_ref, refuseLoop_ref, SF.passes]
  refine wpAny_pure (wpAny_bind (I.type.here (s := ⟨h, g, d, t + 1, os⟩) (wpAny_bind ((looks_findIn X ha).here (s := ⟨h, g, d, t + 1, os⟩) (wpAny_bind (wpAny_pure ?_))))))
  have hx₁ : (h.push { cls := .type "dict", data := .dict #[] }).get? x = some ⟨.ref C, none, .fields vs, #[]⟩ := Heap.get?_push_of_some _ hx
  have hxs : x ≠ h.objs.size := Nat.ne_of_lt (Heap.lt_size hx)
  refine wpAny_bind (wpAny_pure (wpAny_bind (wpAny_bind (wpAny_loadPart hx ?_))))
  refine wpAny_bind (wpAny_bind (wpAny_load hC (wpAny_pure ?_)))
  refine wpAny_bind (wpAny_alloc' ?_)
  refine wpAny_bind (wpAny_update' hx₁ ?_)
  refine wpAny_pure ?_
  have hgd : ((h.push { cls := .type "dict", data := .dict #[] }).update x fun o => { cls := o.cls, dict := some h.objs.size, data := o.data, slots := o.slots }).get? h.objs.size
      = some { cls := .type "dict", data := .dict #[] } :=
    (Heap.get?_update_ne _ _ _ _ hxs.symm).trans (Heap.get?_push_at rfl rfl)
  have hnd : ((h.push { cls := .type "dict", data := .dict #[] }).update x fun o => { cls := o.cls, dict := some h.objs.size, data := o.data, slots := o.slots }).Ns h.objs.size (fun _ => none) :=
    ⟨_, #[], _, hgd, rfl, fun e he => absurd he (by simp), fun _ => rfl⟩
  show wpAny _ _ (storeInDict h.objs.size (.str name t) name v) _ _ _
  unfold storeInDict newKeyGuard
  refine wpAny_bind (wpAny_pure (wpAny_bind (wpAny_nsSet1 (Heap.Ns1.of_empty hnd) fun h' hn' hs => ?_)))
  obtain ⟨oD, esD, epD, hoD, hdD, hcD⟩ := hn'.count (PySem.Within.cons name v PySem.Within.nil)
  refine wpAny_bind (wpAny_lookBehind hoD (by rw [hdD]; exact pastItsLine_dict (Nat.le_trans hcD (by rw [List.length_cons, List.length_nil, sizeLine_eq]; omega))) ?_)
  refine wpAny_pure (hq h' _ ?_ hn' fun b o hb e => ?_)
  · exact (hs.2 x hxs).trans (Heap.get?_update_self _ hx₁ rfl)
  · exact (hs.2 b (Nat.ne_of_lt (Heap.lt_size e))).trans ((Heap.get?_update_ne _ _ _ _ hb).trans (Heap.get?_push_of_some _ e))
end
end RX
set_option maxHeartbeats 4000000
set_option maxRecDepth 100000
namespace RX
open PySem PySem.Spec PyProof.Rows L2 PySem.W
def XV (C : Addr) (od : Option Addr) (fv : Array Value) (e : Addr) : HO := .ext fun h => h.get? e = some ⟨.ref C, od, .fields fv, #[]⟩
theorem XV.ok {P : Program} {w : World} {H : Hp} {h : Heap} {C e : Addr} {od : Option Addr} {fv : Array Value} (x : h.get? e = some ⟨.ref C, od, .fields fv, #[]⟩) : ObjOk P w H h e (XV C od fv e) :=
  ⟨x, ⟨_, x⟩, fun _ _ p k => k _ p⟩
theorem XV.get {P : Program} {w : World} {H : Hp} {h : Heap} {C e : Addr} {od : Option Addr} {fv : Array Value} (x : HOk P w H h) (q : H e = some (XV C od fv e)) : h.get? e = some ⟨.ref C, od, .fields fv, #[]⟩ := (x e _ q).1
structure XCl (K : Frag) (C D : Addr) : Prop where
  cls : xcIn K C D = true
  sa : findIn K (.ref C) "__setattr__" = some (some (.builtin "object.__setattr__"))
  kp : keepIn K (.ref C) = true
def sFldX (K : Frag) (ta tv : TE) (f : Str) : TS := fun D σ H => tv σ H fun y H1 => ta σ H1 fun x H2 => ∃ e C Dd fv, x = .ref e ∧ H2 e = some (XV C none fv e) ∧ XCl K C Dd ∧ findIn K (.ref C) f = some none ∧
  ∀ dx, H2 dx = none → dx ≠ e → D.nx σ (upd (upd H2 dx (.xd [(f, y)])) e (XV C (some dx) fv e))
section
variable {X : Cx} {o value : Expr} {f : Str} {pos pos' : Pos} {ta tv : TE}
theorem ps_fldX (ha : PE X o ta) (hv : PE X value tv) (hs : swapsWith value (some (.Attribute o f pos')) pos.line X.env = pure false) : PS X (.Assign [.Attribute o f pos'] value pos) (sFldX X.K ta tv f) := by
  intro pins s σ H D I h
  refine plainObj_wpAny_Assign_Attribute (thn (hv pins s σ H _ I h) fun u s1 ⟨y, H1, I1, ry, q⟩ => thn (ha pins s1 σ H1 _ I1 q) fun ov s2 ⟨x, H2, I2, rx, e, C, Dd, fv, ex, ea, c, n, q2⟩ => ?_) hs
  subst ex
  obtain rfl : ov = Value.ref e := rx
  have hx := XV.get I2.hok ea
  have hn : H2 s2.heap.objs.size = none := I2.hok.fresh (Nat.le_refl _)
  have hne : s2.heap.objs.size ≠ e := Nat.ne_of_gt (Heap.lt_size hx)
  refine store_x I2.kIn c.cls c.sa n hx fun h' tk g1 g2 g3 => ?_
  have ne1 : ∀ b v, H2 b = some v → (∀ φ, v ≠ .ext φ) → b ≠ e := fun b v r nv z => by rw [z, ea] at r; exact nv _ (Option.some.inj r).symm
  have ne2 : ∀ b v, H2 b = some v → b ≠ s2.heap.objs.size := fun b v r z => by rw [z, hn] at r; cases r
  have ne3 : ∀ b, H2 b = none → b ≠ e := fun b r z => by rw [z, ea] at r; cases r
  have at3 : ∀ b, b ≠ e → b ≠ s2.heap.objs.size → upd (upd H2 s2.heap.objs.size (.xd [(f, y)])) e (XV C (some s2.heap.objs.size) fv e) b = H2 b := fun b h1 h2 => by rw [upd_ne h1, upd_ne h2]
  refine ⟨σ, _, I2.un (H' := upd (upd H2 s2.heap.objs.size (.xd [(f, y)])) e (XV C (some s2.heap.objs.size) fv e)) (h' := h') (t' := tk) ⟨?_, ?_, ?_, ?_, ?_, ?_, ?_⟩ fun b v r => ?_, q2 _ hn hne⟩
  · exact fun b ob r n _ _ => g3 b ob (ne3 b n) r
  · exact fun b ob r n _ _ => ⟨ob.slots, g3 b ob (ne3 b n) r⟩
  · exact fun b ob r n _ => by rw [at3 b (ne3 b n) (Nat.ne_of_lt (Heap.lt_size r))]; exact n
  · intro b ob r _
    by_cases z : b = e
    · subst z; exact ⟨_, g1⟩
    · exact ⟨_, g3 b ob z r⟩
  · exact fun b xs r => by rw [at3 b (ne1 b _ r fun _ => by simp) (ne2 b _ r)]; exact r
  · exact fun b ob xs r => by rw [at3 b (ne1 b _ r fun _ => by simp) (ne2 b _ r)]; exact r
  · exact fun b ps r => ⟨#[], by rw [at3 b (ne1 b _ r fun _ => by simp) (ne2 b _ r), r]; simp⟩
  · by_cases z : b = e
    · subst z; rw [upd_same] at r; cases r; exact XV.ok g1
    · by_cases z2 : b = s2.heap.objs.size
      · subst z2
        rw [upd_ne z, upd_same] at r; cases r
        refine ⟨_, g2, fun g => ?_⟩
        by_cases w : g = f
        · subst w
          rw [if_pos rfl, List.lookup_cons_self]; exact ry
        · rw [if_neg w, show List.lookup g [(f, y)] = none from by unfold List.lookup; rw [beq_eq_false_iff_ne.mpr w]; rfl]; trivial
      · rw [at3 b z z2] at r
        refine (I2.hok b v r).stay (fun c ob hc q => g3 c ob ?_ q) (fun c q => ?_) fun c xs q => ?_
        · rcases hc with rfl | hc
          · exact z
          · exact ne1 c _ hc fun _ => by simp
        · rw [at3 c (ne1 c _ q fun _ => by simp) (ne2 c _ q)]; exact q
        · rw [at3 c (ne1 c _ q fun _ => by simp) (ne2 c _ q)]; exact q
end
section
variable {M : Model} {A : Around} {E : Value → Shared → Prop} {s : Shared} {env : Env} {C D : Addr} {Q : Flow → Shared → Prop}
theorem raise_made {x : Sem Value} (hh : A.handled = none)
    (h : wpAny M A x (fun v s₁ => ∃ e t od, v = .ref e ∧ ClsAt s₁.heap C D ∧ s₁.heap.get? e = some { cls := .ref C, dict := od, data := .fields #[.ref t, .none, .none, .none, .bool false, .none] } ∧ E (.ref e) s₁) E s) : wpAny M A (raiseStmt env (some x) none) Q E s := by
  have hcB : (Value.ref C :: Value.ref D :: veMro).contains (.type "BaseException") = true := by
    rw [List.contains_cons, List.contains_cons]
    exact Bool.or_eq_true_iff.mpr (.inr (Bool.or_eq_true_iff.mpr (.inr (by decide))))
  unfold raiseStmt
  refine wpAny_bind (wpAny_mono h (fun v s₁ h₁ => ?_) fun _ _ x => x)
  obtain ⟨e, t, od, rfl, ⟨T, nm, q, N, bs, sn, sub, ab, col, dd, k0, k1, k2, k3, k5, hC⟩, he, hE⟩ := h₁
  obtain ⟨hp, g, d, tk, os⟩ := s₁
  repeat (first | with_reducible refine wpAny_loadPart_at he ?_ | with_reducible refine wpAny_loadPart_at hC ?_ | (with_reducible refine wpAny_isSubtype_exc hC ?_; rw [hcB]) | wp_step)
  exact wpAny_raiseNew_none hh hE
theorem exec_raise {prog : Program} {w : World} {ex : Expr} {pos : Pos} (hh : A.handled = none)
    (h : wpAny (model prog w) A (eval ex env) (fun v s₁ => ∃ e t od, v = .ref e ∧ ClsAt s₁.heap C D ∧ s₁.heap.get? e = some { cls := .ref C, dict := od, data := .fields #[.ref t, .none, .none, .none, .bool false, .none] } ∧ E (.ref e) s₁) E s) :
    wpAny (model prog w) A (exec (.Raise (some ex) none pos) env) Q E s := by
  rw [arm_exec_Raise]
  first
    | exact wpAny_bind (wpAny_standAt (raise_made (C := C) (D := D) hh (wpAny_bind (wpAny_mono h (fun v s₃ h₃ => wpAny_bind (wpAny_standAt (wpAny_pure h₃))) fun _ _ x => x))))
    | (simp only [evalOpt, Option.map]; exact wpAny_bind (wpAny_standAt (raise_made (C := C) (D := D) hh (wpAny_bind (wpAny_mono h (fun v s₃ h₃ => wpAny_bind (wpAny_standAt (wpAny_pure h₃))) fun _ _ x => x)))))
end
end RX
set_option maxHeartbeats 4000000
set_option maxRecDepth 100000
namespace RX
open PySem PySem.Spec PyProof.Rows L2 PySem.W
theorem objAt {P : Program} {w : World} {H : Hp} {h : Heap} {a : Addr} {o : HO} (x : ObjOk P w H h a o) : ∃ u, h.get? a = some u := by
  cases o with
  | lst xs => obtain ⟨_, _, _, _, e⟩ := x; exact ⟨_, e⟩
  | tup xs => obtain ⟨_, _, _, o, e, _⟩ := x; exact ⟨_, e⟩
  | dK kvs => obtain ⟨_, _, _, _, o, _, _, e, _⟩ := x; exact ⟨_, e⟩
  | dT kvs => obtain ⟨_, _, _, _, o, _, _, e, _⟩ := x; exact ⟨_, e⟩
  | set S n => obtain ⟨o, _, _, _, e, _⟩ := x; exact ⟨_, e⟩
  | ins C dx fs => obtain ⟨_, _, _, e, _⟩ := x; exact ⟨_, e⟩
  | own y => exact x
  | xd fs => obtain ⟨_, ⟨_, _, _, e, _⟩, _⟩ := x; exact ⟨_, e⟩
  | rng lo hi => obtain ⟨_, _, _, e⟩ := x; exact ⟨_, e⟩
  | frz ob u => obtain ⟨e, _⟩ := x; exact ⟨_, e⟩
  | tbl ps => exact ⟨_, (show h.get? a = some _ from x)⟩
  | met f y => exact ⟨_, (show h.get? a = some _ from x)⟩
  | ext φ => obtain ⟨_, e, _⟩ := x; exact e
def untr (H : Hp) (e : Addr) : Hp := fun b => if b = e then none else H b
theorem untr_ne {H : Hp} {e b : Addr} (h : b ≠ e) : untr H e b = H b := by unfold untr; rw [if_neg h]
theorem untr_same {H : Hp} {e : Addr} : untr H e e = none := by unfold untr; rw [if_pos rfl]
section
variable {X : Cx} {pins : List (Addr × Obj)} {σ : L2.St} {H : Hp} {s : Shared}
theorem inv_untr {e : Addr} (I : L2.Inv X pins σ H s) {φ : Heap → Prop} (he : H e = some (.ext φ)) : L2.Inv X pins σ (untr H e) s := by
  have free : ∀ b, H b = none → untr H e b = none := fun b q => by unfold untr; split <;> first | rfl | exact q
  have ne : ∀ b v, H b = some v → (∀ φ, v ≠ .ext φ) → b ≠ e := fun b v r nv z => by rw [z, he] at r; exact nv _ (Option.some.inj r).symm
  refine ⟨I.ok, I.os, I.bare, ⟨I.base.keep, I.base.slot, fun b o q n hx => free b (I.base.free b o q n hx), I.base.there, fun b xs q => ?_, fun b o xs q => ?_, fun b ps q => ?_⟩, I.loc, I.cell, free _ I.free, fun x c q => free _ (I.freeC x c q), fun p hp => ?_, fun b u q => ?_, I.len⟩
  · have r := I.base.tups b xs q
    rw [untr_ne (ne b _ r fun _ => by simp)]; exact r
  · have r := I.base.frzs b o xs q
    rw [untr_ne (ne b _ r fun _ => by simp)]; exact r
  · obtain ⟨m, r⟩ := I.base.tbls b ps q
    exact ⟨m, by rw [untr_ne (ne b _ r fun _ => by simp)]; exact r⟩
  · obtain ⟨e1, n, r⟩ := I.pin p hp
    exact ⟨e1, free _ n, r⟩
  · have hb : b ≠ e := fun z => by rw [z, untr_same] at q; cases q
    rw [untr_ne hb] at q
    refine (I.hok b u q).stay (fun _ _ _ z => z) (fun c z => ?_) fun c xs z => ?_
    · rw [untr_ne (ne c _ z fun _ => by simp)]; exact z
    · rw [untr_ne (ne c _ z fun _ => by simp)]; exact z
theorem un_leave {outer : List Env} {H₀ H' : Hp} {h₀ h h' B : Heap} (un : Un (frs outer) [] H₀ H' h₀ h) (s1 : B.StaysIn h) (s2 : B.StaysIn h') (k1 : ∀ b o, h₀.get? b = some o → b ∉ frs outer → ∃ o', B.get? b = some o')
    (frf : ∀ b ∈ frs outer, H₀ b = none) (nf : ∀ b ∈ frs outer, ∀ o, h.get? b = some o → ∀ vs, o.data ≠ .fields vs) (u : h.UpToSlots h') : Un (frs outer) [] H₀ H' h₀ h' := by
  have slot : ∀ b o, h₀.get? b = some o → H₀ b = none → b ∈ frs outer → ∃ sl, h'.get? b = some { o with slots := sl } := fun b o e n hb => by
    obtain ⟨sl, e1⟩ := un.slot b o e n hb (by simp)
    obtain ⟨sl2, e2⟩ := u b _ e1 (nf b hb _ e1)
    exact ⟨sl2, e2⟩
  refine ⟨fun b o e n hb _ => ?_, fun b o e n hb _ => slot b o e n hb, un.free, fun b o e _ => ?_, un.tups, un.frzs, un.tbls⟩
  · obtain ⟨o', h3⟩ := k1 b o e hb
    exact s2 b o (same_of_stays s1 h3 (un.keep b o e n hb (by simp)))
  · by_cases hb : b ∈ frs outer
    · obtain ⟨sl, z⟩ := slot b o e (frf b hb) hb
      exact ⟨_, z⟩
    · obtain ⟨o', h3⟩ := k1 b o e hb
      exact ⟨o', s2 b o' h3⟩
theorem raise_leaves {M : Model} {EE : Value → Shared → Prop} {E : XK} {e C t : Addr} {od : Option Addr} (hst : X.stack = X.env :: X.outer) (hf : X.env.frame = some X.env.locals) (hex : X.ex = []) (I : L2.Inv X pins σ H s)
    (hn : X.s₀.heap.get? e = none) (he : s.heap.get? e = some { cls := .ref C, dict := od, data := .fields #[.ref t, .none, .none, .none, .bool false, .none] }) (hu : H e = none) (q : E (.ref C) od H) :
    wpAny M X.A (leaving X.env (.ref e)) (fun _ s'' => CXe X.prog X.w X.outer X.H₀ X.s₀ E (.ref e) s'') EE s := by
  have noA : ∀ b : Addr, b ∉ X.ex := fun b z => by rw [hex] at z; cases z
  have st : (hideAll s.heap (e :: frs X.stack)).StaysIn s.heap := fun b o q => of_hideAll _ q
  have fr : s.heap.FunFrames (hideAll s.heap (e :: frs X.stack)) (X.env :: X.outer) := by
    have := I.stack
    rw [hst] at this
    exact funFrames_hide this fun env he a ha => List.mem_cons_of_mem _ (by rw [hst]; exact List.mem_filterMap.mpr ⟨env, he, ha⟩)
  have un0 : Un (frs X.outer) [] X.H₀ H X.s₀.heap s.heap := I.base.mono (fun _ z => z) fun b z => absurd z (noA b)
  have k1 : ∀ b o, X.s₀.heap.get? b = some o → b ∉ frs X.outer → ∃ o', (hideAll s.heap (e :: frs X.stack)).get? b = some o' := fun b o q hb => by
    obtain ⟨o', q'⟩ := I.base.there b o q (noA b)
    refine ⟨o', hideAll_get _ q' fun hm => ?_⟩
    rcases List.mem_cons.mp hm with z | z
    · rw [z, hn] at q; cases q
    · exact (mem_stack hst hf z).elim (Nat.ne_of_lt (Nat.lt_of_lt_of_le (Heap.lt_size q) I.ok.above)) hb
  have k2 : ∀ b u, H b = some u → ∃ o, (hideAll s.heap (e :: frs X.stack)).get? b = some o := fun b u q => by
    obtain ⟨o, ho⟩ := objAt (I.hok b u q)
    refine ⟨o, hideAll_get _ ho fun hm => ?_⟩
    rcases List.mem_cons.mp hm with z | z
    · rw [z, hu] at q; cases q
    · rw [I.stkFree b z] at q; cases q
  refine leave_first (base := hideAll s.heap (e :: frs X.stack)) (by rw [← hst]; exact I.ok.frames) fr hf he st (hideAll_none _ (List.mem_cons_self)) rfl rfl fun h' fl u => ?_
  refine ⟨e, .ref C, od, H, _, rfl, I.os, I.bare, un_leave un0 st fl.stays k1 I.ok.frf (fun b hb o ho => ?_) u, hok_stays I.hok k2 st fl.stays, fl, k1, k2, q⟩
  obtain ⟨_, o', ho', hnf⟩ := fr.mem (by have := mem_stack_of hst hb; rw [hst] at this; exact this)
  rw [ho] at ho'; cases ho'; exact hnf
end
def spInit (C : Addr) (f : Str) : Sp := fun vs H Q _ => ∃ e fv y, vs = [.ref e, y] ∧ H e = some (XV C none fv e) ∧ ∀ dx, H dx = none → dx ≠ e → Q .non (upd (upd H dx (.xd [(f, y)])) e (XV C (some dx) fv e))
def sRaiseF (C : Addr) (f : Str) (E : XK) (t : TA) : TS := fun _ σ H => t σ H fun vs H1 => ∃ y, vs = [y] ∧ ∀ dx, H1 dx = none → E (.ref C) (some dx) (upd H1 dx (.xd [(f, y)]))
section
variable {X : Cx} {k : Nat} {C D fI : Addr} {fd : FuncData} {ps : List Str} {E : XK} {x f : Str} {np pos cpos : Pos} {arg : Expr} {t : TA}
theorem ps_raiseF (c : XCl X.K C D) (hi : findIn X.K (.ref C) "__init__" = some (some (.ref fI))) (hfn : isFn X.K (.ref fI) = true)
    (F : FnOk X.prog X.w X.K X.mg X.base CX0 k fI fd ps (spInit C f)) (hr : Room (k + 1) X.A) (hb : L2.Binds X.K fd ps []) (hg : Gl X x) (hm : X.mg x = some (.ref C)) (ha : PA X [arg] t)
    (hst : X.stack = X.env :: X.outer) (hf : X.env.frame = some X.env.locals) (hex : X.ex = [])
    (hxe : ∀ e s', wpAny (model X.prog X.w) X.A (leaving X.env e) (fun _ s'' => CXe X.prog X.w X.outer X.H₀ X.s₀ E e s'') (fun e' s'' => CXe X.prog X.w X.outer X.H₀ X.s₀ E e' s'') s' → X.xe e s')
    (hdb : (x == ("__debug__" : Str)) = false := by decide) (he : starEach [arg] X.env = (false, eval arg X.env) :: starEach [] X.env := by rfl) :
    PS X (.Raise (some (.Call (.Name x np) [arg] [] cpos)) none pos) (sRaiseF C f E t) := by
  intro pins s σ H Dn I h
  refine exec_raise (C := C) (D := D) hr.hd (wpAny_Call_Name_kw (ld_glob I hg hm ?_ hdb))
  refine PySem.W.callWith_K (h₀ := X.base) I.ok.mod.kin c.kp (thn (ha cpos pins s σ H _ I h) fun us s1 ⟨vs, H1, I1, r, y, ev, q⟩ => ⟨I1.kIn, ?_⟩) he rfl
  subst ev
  have hus : us.length = 1 := r.length.symm
  have kin := I1.kIn
  have hn : X.s₀.heap.get? (s1.heap.objs.size + 1) = none := Heap.get?_none_of_le (Nat.le_succ_of_le I1.sz)
  have hfree : H1 (s1.heap.objs.size + 1) = none := I1.hok.fresh (Nat.le_succ _)
  have e1 : ((s1.heap.push (rawArgs us)).push (rawX C s1.heap.objs.size)).get? (s1.heap.objs.size + 1) = some (rawX C s1.heap.objs.size) := by
    have := Heap.get?_push_size (s1.heap.push (rawArgs us)) (o := rawX C s1.heap.objs.size) rfl
    rwa [Heap.size_push] at this
  have I0 := I1.kept (h' := s1.heap.push (rawArgs us)) (t' := s1.toks) fun b u q => Heap.get?_push_of_some _ q
  have I2 := I0.laid (a := s1.heap.objs.size + 1) (o := XV C none (rawF s1.heap.objs.size) (s1.heap.objs.size + 1)) (h' := (s1.heap.push (rawArgs us)).push (rawX C s1.heap.objs.size)) (t' := s1.toks)
    (fun b u q => Heap.get?_push_of_some _ q) (Nat.le_of_eq (Heap.size_push _ _)) (XV.ok e1)
  have r2 : Vals [V.ref (s1.heap.objs.size + 1), y] (Value.ref (s1.heap.objs.size + 1) :: us) := .cons rfl r
  have hsp : spInit C f [V.ref (s1.heap.objs.size + 1), y] (upd H1 (s1.heap.objs.size + 1) (XV C none (rawF s1.heap.objs.size) (s1.heap.objs.size + 1))) (fun v H' => v = .non ∧ ∃ dx, H1 dx = none ∧ dx ≠ s1.heap.objs.size + 1 ∧
      H' = upd (upd (upd H1 (s1.heap.objs.size + 1) (XV C none (rawF s1.heap.objs.size) (s1.heap.objs.size + 1))) dx (.xd [(f, y)])) (s1.heap.objs.size + 1) (XV C (some dx) (rawF s1.heap.objs.size) (s1.heap.objs.size + 1))) E0 :=
    ⟨_, _, y, rfl, upd_same, fun dx h1 h2 => ⟨rfl, dx, by rwa [upd_ne h2] at h1, h2, rfl⟩⟩
  have hl : ((Value.ref (s1.heap.objs.size + 1) :: us) ++ []).length = ps.length := by
    rw [List.append_nil, ← r2.length]; exact F.len _ _ _ _ hsp
  have bd := hb { s1 with heap := (s1.heap.push (rawArgs us)).push (rawX C s1.heap.objs.size) } (Value.ref (s1.heap.objs.size + 1) :: us) I2.kIn hl
  rw [List.append_nil] at bd
  refine call_exc_init (D := D) (clsAt_of kin c.cls) (looks_findIn kin hi) (fun self => bind_fn kin self (beq_iff_eq.mp hfn)) (wpAny_call (codeAny_mono (F.run _ X.stack _ _ ⟨Value.ref (s1.heap.objs.size + 1) :: us, []⟩ _ _ _ E0 (hr.make C us [])
    (I2.env0.make C us []) bd r2 hsp) fun rr s' hq => ?_)) (by rw [List.nil_append, hus, sizeLine_eq]; omega)
  cases rr with
  | error e => exact False.elim hq
  | ok fl =>
    cases fl with
    | ret u =>
      obtain ⟨v, H', I3, rv, ev, dx, g1, g2, g3⟩ := I2.after hq
      subst ev g3
      obtain rfl : u = Value.none := rv
      have he := XV.get (e := s1.heap.objs.size + 1) I3.hok upd_same
      have I4 := inv_untr (e := s1.heap.objs.size + 1) I3 upd_same
      refine ⟨rfl, s1.heap.objs.size + 1, s1.heap.objs.size, some dx, rfl, clsAt_of I3.kIn c.cls, he, hxe _ _ (raise_leaves hst hf hex I4 hn he untr_same ?_)⟩
      have e4 : untr (upd (upd (upd H1 (s1.heap.objs.size + 1) (XV C none (rawF s1.heap.objs.size) (s1.heap.objs.size + 1))) dx (.xd [(f, y)])) (s1.heap.objs.size + 1) (XV C (some dx) (rawF s1.heap.objs.size) (s1.heap.objs.size + 1))) (s1.heap.objs.size + 1)
          = upd H1 dx (.xd [(f, y)]) := by
        funext b
        by_cases z : b = s1.heap.objs.size + 1
        · rw [z, untr_same, upd_ne (Ne.symm g2), hfree]
        · rw [untr_ne z, upd_ne z]
          by_cases z2 : b = dx
          · rw [z2, upd_same, upd_same]
          · rw [upd_ne z2, upd_ne z2, upd_ne z]
      rw [e4]
      exact q dx g1
    | next => exact False.elim hq
    | brk => exact False.elim hq
    | cont => exact False.elim hq
end
end RX
set_option Elab.async false
set_option linter.all false
set_option maxRecDepth 100000
set_option maxHeartbeats 4000000
namespace L2
open PySem PySem.Spec PyProof.Rows
structure Mk0 (K : PySem.W.Frag) (C : Addr) : Prop where
  makes : PySem.W.makesIn K C = true
  init : PySem.W.findIn K (.ref C) "__init__" = some (some (.builtin "object.__init__"))
  kp : PySem.W.keepIn K (.ref C) = true
structure OwnC (K : PySem.W.Frag) (C : Addr) : Prop where
  cl : Cls K C
  ha : PySem.W.findIn K (.ref C) "__class__" = some (some (.builtin "object.__class__"))
  hn : PySem.W.specialIn K (.builtin "object.__class__") "__get__" = some (some (.builtin "getset_descriptor.__get__"))
  htk : PySem.W.takesIn K (.builtin "object.__class__") = some true
  hm : PySem.W.mroIn K C (.type "object") = some true
theorem OwnC.ty {K : PySem.W.Frag} {H : Hp} {a C dx : Addr} {fs : List (Str × V)} (o : OwnC K C) (e : H a = some (.ins C dx fs)) : TyOf K H (.ref a) (.ref C) := .ins e o.cl o.ha o.hn o.htk o.hm
section
variable {X : Cx}
theorem refs_of : ∀ {cs : List Addr} {us : List Value}, Vals (cs.map V.ref) us → us = cs.map Value.ref
  | [], _, .nil => rfl
  | c :: cs, _, .cons h t => by
    rw [refs_of t]
    cases (show _ = Value.ref c from h)
    rfl
structure MethOk (X : Cx) (m : Str) (C : Addr) (sp : Sp) : Prop where
  ex : ∃ f fd ps k, Cls X.K C ∧ Meth X.K C m f ∧ FnOk X.prog X.w X.K X.mg X.base CX0 k f fd ps sp ∧ Room k X.A ∧ Binds X.K fd ps []
end
end L2
set_option maxHeartbeats 4000000
set_option maxRecDepth 100000
namespace RX
open PySem PySem.Spec PyProof.Rows L2 PySem.W
open Builtin Builtin.ObjectAttr
structure XGet (K : Frag) (C : Addr) : Prop where
  ga : findIn K (.ref C) "__getattribute__" = some (some (.builtin "BaseException.__getattribute__"))
  gh : findIn K (.ref C) "__getattr__" = some none
  hd : hasDictIn K C = true
  be : mroIn K C (.type "BaseException") = some true
  ob : mroIn K C (.type "object") = some true
  cl : findIn K (.ref C) "__class__" = some (some (.builtin "object.__class__"))
  cg : specialIn K (.builtin "object.__class__") "__get__" = some (some (.builtin "getset_descriptor.__get__"))
  ct : takesIn K (.builtin "object.__class__") = some true
theorem bga_kind : builtinKind "BaseException.__getattribute__" = some .slot := by decide +kernel
theorem bga_split : splitId "BaseException.__getattribute__" = some ("BaseException", "__getattribute__") := by decide +kernel
section
variable {prog : Program} {w : World} {A : Around} {E : Value → Shared → Prop} {s : Shared} {K : Frag} {x C : Addr} {ox : Obj} {od : Option Obj} {name : Str} {tk : Tok} {fill expr : Bool} {Q : Value → Shared → Prop}
theorem getBy_x (X : K.In s.heap) (I : InstAt s.heap x ox C od) (g : XGet K C)
    (h : wpAny (model prog w) A.in1 (Builtin.«object.__getattribute__» ⟨[.ref x, .str name tk], []⟩) (fun fin s' => match fin with | .done (.ret v) => wpAny (model prog w) A (handedOut v) Q E s' | _ => False)
      (fun _ _ => False) s) : wpAny (model prog w) A (getAttrBy (.ref x) (.str name tk) fill expr) Q E s := by
  obtain ⟨hh, gg, d, t, os⟩ := s
  have L0 := I.type (M := model prog w)
  have L1 := looks_findIn (M := model prog w) X g.ga
  have L2 := looks_findIn (M := model prog w) X g.gh
  have L3 : Looks (model prog w) hh (isInstance (.ref x) (.type "BaseException")) true := L0.andThen (looks_mroIn X g.be)
  have f3 := PySem.F.excAttr_ValueError.ga.bind (.ref x)
  have hx0 : (expr && onTheHeap (Value.builtin "BaseException.__getattribute__")) = false := by cases expr <;> rfl
  have hx2 : (Value.builtin "BaseException.__getattribute__" == Value.builtin "object.__getattribute__") = false := by decide +kernel
  have hx1 : (onTheHeap (Value.ref C) && Value.builtin "BaseException.__getattribute__" == Value.builtin "object.__getattribute__") = false := by rw [hx2]; rfl
  unfold getAttrBy
  refine wpAny_holding (wpAny_bind (L0.here (s := ⟨hh, gg, d, t, os⟩) (wpAny_bind (L1.here (s := ⟨hh, gg, d, t, os⟩) ?_))))
  dsimp only
  rw [hx1]
  simp only [Bool.false_eq_true, if_false]
  unfold getAttrByItsOwn hookBefore
  rw [if_pos (show onTheHeap (Value.ref C) = true from rfl)]
  refine wpAny_bind (L2.here (s := ⟨hh, gg, d, t, os⟩) (wpAny_bind (wpAny_attempt (wpAny_holding ?_))))
  unfold callGetattribute
  rw [hx0]
  simp only [Bool.false_eq_true, if_false]
  unfold boundAndCalled
  rw [f3]
  refine wpAny_bind (wpAny_pure (wpAny_call ?_))
  refine codeAny_call_builtin PySem.F.excAttr_ValueError.ga.plain PySem.F.entry_bexc_ga ?_
  refine @check_slot (model prog w) _ _ ⟨hh, gg, d, t, os⟩ "BaseException.__getattribute__" "BaseException" "__getattribute__" (.ref x) [.str name tk] [] _ bga_kind bga_split L3 (PySem.F.args_bexc_ga _ _) ?_
  refine wpAny_mono h (fun fin s' z => ?_) fun _ _ z => False.elim z
  cases fin with
  | again c => exact z.elim
  | done f =>
    cases f with
    | ret v => exact z
    | next => exact z.elim
    | brk => exact z.elim
    | cont => exact z.elim
theorem get_x {o : Obj} {v : Value} (X : K.In s.heap) (I : InstAt s.heap x ox C (some o)) (g : XGet K C) (ha : findIn K (.ref C) name = some none) (hl : lookIn name o = some (some v)) (hh : handedIn v = true) (h : Q v { s with toks := s.toks + 1 }) :
    wpAny (model prog w) A (getAttr (.ref x) name expr) Q E s := by
  have hf : findObj K C (some o) name = some (.value v) := findObj_own g.hd ha rfl hl
  unfold getAttr
  refine wpAny_bind (wpAny_mkText ?_)
  obtain ⟨hp, gg, d, t, os⟩ := s
  have L0 := I.type (M := model prog w)
  have L1 := looks_find (M := model prog w) X I hf
  refine getBy_x (s := ⟨hp, gg, d, t + 1, os⟩) X I g ?_
  refine wpAny_bind (wpAny_pure (wpAny_bind (wpAny_pure (wpAny_bind (L0.here (s := ⟨hp, gg, d, t + 1, os⟩) (wpAny_bind (L1.here (s := ⟨hp, gg, d, t + 1, os⟩) ?_)))))))
  refine wpAny_pure ?_
  exact handed_on hh h
theorem findObj_dataX {od : Option Obj} {a g : Value} (hc : (clsIn K C).isSome = true) (ha : findIn K (.ref C) name = some (some a)) (hg : specialIn K a "__get__" = some (some g)) (ht : takesIn K a = some true) : findObj K C od name = some (.bind g a) := by
  obtain ⟨cd, hcd⟩ := Option.isSome_iff_exists.mp hc
  unfold findObj
  rw [hcd, Option.bind_some, ha, Option.bind_some]
  dsimp only
  rw [hg, Option.bind_some]
  dsimp only
  rw [ht, Option.bind_some]
theorem class_x {Q : Option Value → Shared → Prop} (X : K.In s.heap) (I : InstAt s.heap x ox C od) (g : XGet K C) (h : Q (some (.ref C)) { s with toks := s.toks + 1 }) : wpAny (model prog w) A (getAttr? (.ref x) "__class__") Q E s := by
  have hf : findObj K C od "__class__" = some (.bind (.builtin "getset_descriptor.__get__") (.builtin "object.__class__")) :=
    findObj_dataX (by obtain ⟨cd, hc, _⟩ := any_some g.hd; rw [hc]; rfl) g.cl g.cg g.ct
  unfold getAttr? getAttrBy?
  refine wpAny_bind (wpAny_mkText (wpAny_bind (wpAny_attempt ?_)))
  obtain ⟨hp, gg, d, t, os⟩ := s
  have L0 := I.type (M := model prog w)
  have L1 := looks_find (M := model prog w) X I hf
  refine getBy_x (s := ⟨hp, gg, d, t + 1, os⟩) X I g ?_
  refine wpAny_bind (wpAny_pure (wpAny_bind (wpAny_pure (wpAny_bind (L0.here (s := ⟨hp, gg, d, t + 1, os⟩) (wpAny_bind (L1.here (s := ⟨hp, gg, d, t + 1, os⟩) ?_)))))))
  show wpAny _ _ (bindTo (.builtin "getset_descriptor.__get__") (.builtin "object.__class__") (.ref x) (.ref C)) _ _ _
  unfold bindTo
  dsimp only
  refine wpAny_bind (wpAny_holding (wpAny_call (class_get (s := ⟨hp, gg, d, t + 1, os⟩) X I g.ob ?_)))
  refine wpAny_pure ?_
  exact handed_on rfl (wpAny_pure h)
theorem kitx_x (g : XGet K C) : KitX K (.ref x) (.ref C) (fun h => ∃ ox od, InstAt h x ox C od) where
  ty := fun _ _ _ ⟨_, _, I⟩ => I.type
  it := fun _ _ X _ => by
    obtain ⟨cdD, hcD, _⟩ := any_some g.hd
    unfold clsIn at hcD
    split at hcD
    · rename_i c' d' cd' sl' ho
      intro A' Q' E' s' k q
      unfold isType loadHead
      exact wpAny_bind (wpAny_loadPart (k _ _ (X _ _ ho)) (wpAny_pure q))
    · cases hcD
  ne := fun h tp dd its n sl X htp => by
    obtain ⟨cdD, hcD, _⟩ := any_some g.hd
    refine Bool.eq_false_iff.mpr fun q => ?_
    have e : C = tp := Value.ref.inj (beq_iff_eq.mp q)
    subst e
    unfold clsIn at hcD
    split at hcD
    · rename_i c' d' cd' sl' ho
      have z := (X _ _ ho).symm.trans htp
      cases z
    · cases hcD
  ca := fun X ⟨_, _, I⟩ k => class_x X I g k
end
def XO (C : Addr) (od : Option Addr) (e : Addr) : HO := .ext fun h => ∃ o fv, h.get? e = some o ∧ o.cls = .ref C ∧ o.dict = od ∧ o.data = .fields fv
theorem XO.ok {P : Program} {w : World} {H : Hp} {h : Heap} {C e : Addr} {od : Option Addr} {o : Obj} {fv : Array Value} (e1 : h.get? e = some o) (e2 : o.cls = .ref C) (e3 : o.dict = od) (e4 : o.data = .fields fv) : ObjOk P w H h e (XO C od e) :=
  ⟨⟨o, fv, e1, e2, e3, e4⟩, ⟨_, e1⟩, fun _ _ ⟨o, fv, p, r⟩ k => ⟨o, fv, k _ p, r⟩⟩
section
variable {P : Program} {w : World} {H : Hp} {h : Heap} {C e : Addr} {od : Option Addr}
theorem XO.get (x : HOk P w H h) (q : H e = some (XO C od e)) : ∃ o fv, h.get? e = some o ∧ o.cls = .ref C ∧ o.dict = od ∧ o.data = .fields fv := (x e _ q).1
theorem notCls_fields {o : Obj} {fv : Array Value} (h : o.data = .fields fv) : notCls o = true := by unfold notCls; rw [h]
theorem XO.inst (x : HOk P w H h) (q : H e = some (XO C od e)) (hd : ∀ dx, od = some dx → ∃ u, H dx = some u) : ∃ ox oo, InstAt h e ox C oo := by
  obtain ⟨o, fv, e1, e2, e3, e4⟩ := XO.get x q
  cases od with
  | none => exact ⟨o, none, e1, e2, notCls_fields e4, by rw [e3]; trivial⟩
  | some dx =>
    obtain ⟨u, hu⟩ := hd dx rfl
    obtain ⟨o', ho'⟩ := objAt (x dx u hu)
    exact ⟨o, some o', e1, e2, notCls_fields e4, by rw [e3]; exact ho'⟩
end
section
variable {X : Cx} {f : Str} {e : Expr} {ta : TE} {pos : Pos}
def tFldX (K : Frag) (ta : TE) (f : Str) : TE := fun σ H Q => ta σ H fun x H1 => ∃ a C dx fs v, x = .ref a ∧ H1 a = some (XO C (some dx) a) ∧ H1 dx = some (.xd fs) ∧ XGet K C ∧ findIn K (.ref C) f = some none ∧ fs.lookup f = some v ∧ (∀ n, v ≠ .ty n) ∧ Q v H1
theorem pe_fldX (he : PE X e ta) (hb : attributeBase e f X.env (eval e X.env) = eval e X.env) : PE X (.Attribute e f pos) (tFldX X.K ta f) := by
  intro pins s σ H Q I h
  refine attr_of hb (thn (he pins s σ H _ I h) fun u s1 ⟨x, H1, I1, rx, a, C, dx, fs, v, ex, ea, ed, g, n, l, nt, q⟩ => ?_)
  subst ex
  obtain rfl : u = Value.ref a := rx
  obtain ⟨o, fv, e1, e2, e3, e4⟩ := XO.get I1.hok ea
  obtain ⟨mA, hns, r⟩ := (show ObjOk X.prog X.w H1 s1.heap dx (.xd fs) from I1.hok dx _ ed)
  obtain ⟨u', hu, ru⟩ := RelO.some_of (v := v) (o := mA f) (by rw [← l]; exact r f)
  obtain ⟨od, ho, hl⟩ := lookIn_ns hns
  exact get_x I1.kIn ⟨e1, e2, notCls_fields e4, by rw [e3]; exact ho⟩ g n (by rw [hl, hu]) (handed_of ru) ⟨v, H1, I1.tok _, ru, q⟩
def clV : V → Option Value
  | .ref a => some (.ref a)
  | .ty n => some (.type n)
  | _ => none
theorem clV_rel {y : V} {c u : Value} (e : clV y = some c) (r : L2.RelV y u) : u = c := by
  cases y <;> cases e <;> exact r
def rIsX (K : Frag) : List V → Hp → VK → Prop := fun xs H Q => ∃ a C od y c b, xs = [.ref a, y] ∧ H a = some (XO C od a) ∧ (∀ dx, od = some dx → ∃ u, H dx = some u) ∧ XGet K C ∧ clV y = some c ∧ kitOne K (.ref C) c = some b ∧ Q (.bl b) H
theorem call_isinstX : CallR X (.builtin "isinstance") (rIsX X.K) := by
  intro pins s σ H xs us Q I r h
  obtain ⟨a, C, od, y, c, b, rfl, ea, hd, g, ec, e, q⟩ := h
  obtain ⟨u, w', rfl, rx, ry⟩ := vals2 r
  cases (show u = Value.ref a from rx)
  cases clV_rel ec ry
  exact kia_one (kitx_x g) I.kIn (XO.inst I.hok ea hd) e (fun z => nomatch z) fun tk => ⟨.bl b, H, I.tok tk, rfl, q⟩
def rIsXT (K : Frag) : List V → Hp → VK → Prop := fun xs H Q => ∃ a C od tp, ∃ (cs : List Addr) (b : Bool), xs = [.ref a, .ref tp] ∧ H a = some (XO C od a) ∧ (∀ dx, od = some dx → ∃ u, H dx = some u) ∧ XGet K C ∧ H tp = some (.tup (cs.map V.ref)) ∧
  kitAny K (.ref C) (cs.map Value.ref) = some b ∧ Q (.bl b) H
theorem call_isinstXT : CallR X (.builtin "isinstance") (rIsXT X.K) := by
  intro pins s σ H xs us Q I r h
  obtain ⟨a, C, od, tp, cs, b, rfl, ea, hd, g, et, e, q⟩ := h
  obtain ⟨u, w', rfl, rx, ry⟩ := vals2 r
  cases (show u = Value.ref a from rx)
  cases (show w' = Value.ref tp from ry)
  obtain ⟨_, its, rv, o, h1, h2, n, h3⟩ := (show ObjOk X.prog X.w H s.heap tp (.tup (cs.map V.ref)) from I.hok tp _ et)
  obtain ⟨oc, od', odt, osl⟩ := o
  dsimp only at h2 h3
  subst h2 h3
  rw [refs_of rv] at h1
  exact kia_tup (kitx_x g) I.kIn (XO.inst I.hok ea hd) h1 e (fun z => nomatch z) fun tk => ⟨.bl b, H, I.tok tk, rfl, q⟩
end
end RX
set_option maxHeartbeats 4000000
set_option maxRecDepth 100000
namespace RX
open PySem PySem.Spec PyProof.Rows L2 PySem.W
section
variable {X : Cx} {pins : List (Addr × Obj)} {σ : L2.St} {H0 H' : Hp} {s0 s' : Shared} {e C : Addr} {cls fl fl' : Value} {od : Option Addr} {B h' : Heap}
structure Ly (X : Cx) (H0 : Hp) (s0 : Shared) (e : Addr) (cls : Value) (od : Option Addr) (H' : Hp) (B : Heap) (fl : Value) (s' : Shared) : Prop where
  os : s'.os = s0.os
  bare : AllBare s'.gens
  un : Un (frs X.stack) [] H0 H' s0.heap s'.heap
  hok : HOk X.prog X.w H' s'.heap
  fly : Fl B X.stack e cls od fl s'.heap
  k1 : ∀ b o, s0.heap.get? b = some o → b ∉ frs X.stack → ∃ o', B.get? b = some o'
  k2 : ∀ b u, H' b = some u → ∃ o, B.get? b = some o
theorem Ly.to (x : Ly X H0 s0 e cls od H' B fl s') (I : L2.Inv X pins σ H0 s0) (f : Fl B X.stack e cls od fl' h') (u : s'.heap.UpToSlots h') : Ly X H0 s0 e cls od H' B fl' { s' with heap := h' } := by
  refine ⟨x.os, x.bare, un_leave x.un x.fly.stays f.stays x.k1 I.stkFree (fun b hb o ho => ?_) u, hok_stays x.hok x.k2 x.fly.stays f.stays, f, x.k1, x.k2⟩
  obtain ⟨_, o', ho', hnf⟩ := x.fly.frames.mem hb
  rw [ho] at ho'; cases ho'; exact hnf
theorem Ly.free (x : Ly X H0 s0 e cls od H' B fl s') : H' e = none := by
  cases q : H' e with
  | none => rfl
  | some u =>
    obtain ⟨o, ho⟩ := x.k2 e u q
    rw [x.fly.new] at ho; cases ho
theorem Ly.fresh (x : Ly X H0 s0 e cls od H' B fl s') : s0.heap.get? e = none := by
  cases q : s0.heap.get? e with
  | none => rfl
  | some o =>
    by_cases hb : e ∈ frs X.stack
    · obtain ⟨_, o', ho', hnf⟩ := x.fly.frames.mem hb
      obtain ⟨oe, vs, _, _, _, he, _, hd, _⟩ := x.fly.trace
      rw [he] at ho'; cases ho'
      exact absurd hd (hnf vs)
    · obtain ⟨o', h⟩ := x.k1 e o q hb
      rw [x.fly.new] at h; cases h
theorem Ly.inv (x : Ly X H0 s0 e cls od H' B fl s') (I : L2.Inv X pins σ H0 s0) : L2.Inv X pins σ H' s' :=
  I.call' (ch := []) x.os x.un x.hok x.bare fun b z => absurd z (by simp)
theorem Ly.track (x : Ly X H0 s0 e (.ref C) od H' B fl s') (I : L2.Inv X pins σ H0 s0) : L2.Inv X pins σ (upd H' e (XO C od e)) s' := by
  have nf := x.free
  have ne : ∀ b v, H' b = some v → b ≠ e := fun b v q z => by rw [z, nf] at q; cases q
  refine I.call' (ch := []) x.os ⟨x.un.keep, x.un.slot, fun b o q n hx => ?_, x.un.there, fun b xs q => ?_, fun b o xs q => ?_, fun b ps q => ?_⟩ (fun b u q => ?_) x.bare fun b z => absurd z (by simp)
  · rw [upd_ne (fun z => by rw [z, x.fresh] at q; cases q)]
    exact x.un.free b o q n hx
  · have r := x.un.tups b xs q
    rw [upd_ne (ne b _ r)]; exact r
  · have r := x.un.frzs b o xs q
    rw [upd_ne (ne b _ r)]; exact r
  · obtain ⟨m, r⟩ := x.un.tbls b ps q
    exact ⟨m, by rw [upd_ne (ne b _ r)]; exact r⟩
  · by_cases z : b = e
    · subst z
      rw [upd_same] at q; cases q
      obtain ⟨oe, vs, _, _, _, he, ⟨hc, hd⟩, hf, _⟩ := x.fly.trace
      exact XO.ok he hc hd hf
    · rw [upd_ne z] at q
      refine (x.hok b u q).stay (fun _ _ _ r => r) (fun c r => ?_) fun c xs r => ?_
      · rw [upd_ne (ne c _ r)]; exact r
      · rw [upd_ne (ne c _ r)]; exact r
end
abbrev mrk (X : Cx) (e : Addr) : Cx := { X with A := X.A.mark (some (.ref e)), calm := false, xe := fun _ _ => False }
section
variable {X : Cx} {pins : List (Addr × Obj)} {σ : L2.St} {H : Hp} {s : Shared} {e : Addr}
theorem inv_mrk (I : L2.Inv X pins σ H s) (e : Addr) : L2.Inv (mrk X e) pins σ H s :=
  have ok := I.ok
  ⟨⟨ok.mod, ok.kind, ok.glob, ok.blt, ok.above, ok.inj, ok.has, ok.cab, (fun z => Bool.noConfusion z), ok.frames, ok.stk, ok.exf, ok.bs, ok.bsz, ok.noex, ok.exfs, ok.funs, ok.frf⟩, I.os, I.bare, I.base, I.loc, I.cell, I.free, I.freeC, I.pin, I.hok, I.len⟩
theorem inv_unmrk (ok : X.Ok) (I : L2.Inv (mrk X e) pins σ H s) : L2.Inv X pins σ H s :=
  ⟨ok, I.os, I.bare, I.base, I.loc, I.cell, I.free, I.freeC, I.pin, I.hok, I.len⟩
theorem inv_pn {pn : List (Addr × Obj)} {E : Value → Shared → Prop} (I : L2.Inv X pins σ H s) (h : ∀ p ∈ pn, p ∈ X.pn ++ pins) : L2.Inv { X with pn := pn, xe := E } [] σ H s :=
  have ok := I.ok
  ⟨⟨ok.mod, ok.kind, ok.glob, ok.blt, ok.above, ok.inj, ok.has, ok.cab, ok.hd, ok.frames, ok.stk, ok.exf, ok.bs, ok.bsz, ok.noex, ok.exfs, ok.funs, ok.frf⟩, I.os, I.bare, I.base, I.loc, I.cell, I.free, I.freeC, fun p hp => I.pin p (h p (by simpa using hp)), I.hok, I.len⟩
theorem inv_unpn {pn pins' : List (Addr × Obj)} {E : Value → Shared → Prop} (ok : X.Ok) (I : L2.Inv { X with pn := pn, xe := E } pins' σ H s) (h : ∀ p ∈ X.pn ++ pins, p ∈ pn) : L2.Inv X pins σ H s :=
  ⟨ok, I.os, I.bare, I.base, I.loc, I.cell, I.free, I.freeC, fun p hp => I.pin p (List.mem_append_left _ (h p hp)), I.hok, I.len⟩
theorem goes_ok {M : Model} {A : Around} {E : Value → Shared → Prop} {i : Nat} {n : Str} {pos : Pos} {Q : Unit → Shared → Prop} (I : L2.Inv X pins σ H s) (hN : X.N.Nodup) (hi : X.N[i]? = some n) (hk : X.env.scope.names.lookup n = some .local)
    (h : ∀ s', L2.Inv X pins (σ.set i none) H s' → Q () s') : wpAny M A (do bindName X.env n .none; unbindBehindTheSuite X.env n pos) Q E s := by
  obtain ⟨m, hn, hl⟩ := id I.loc
  have hcls : (X.env.scope.kind == .class || (X.env.scope.kind == .module && X.env.locals != X.env.globals)) = false := by rw [I.ok.kind]; rfl
  have hiσ : i < σ.length := by rw [I.len]; exact (List.getElem?_eq_some_iff.mp hi).1
  obtain ⟨oL, _, _, hoL, _⟩ := id hn
  refine wpAny_nameGoes_keeps hk hn hcls fun h' v hn' hs => ?_
  have tracked : HOk X.prog X.w H h' := fun b ob e => by
    refine (I.hok b ob e).stay (fun c w' hc q => (hs.2 c ?_).trans q) (fun _ q => q) fun _ _ q => q
    rintro rfl
    rcases hc with hc | hc
    · rw [← hc, I.free] at e; cases e
    · rw [I.free] at hc; cases hc
  have low : ∀ b o, X.s₀.heap.get? b = some o → b ≠ X.env.locals := fun b o e => Nat.ne_of_lt (Nat.lt_of_lt_of_le (Heap.lt_size e) I.ok.above)
  refine h _ ⟨I.ok, I.os, I.bare, ⟨fun b o e n hb hx => ?_, fun b o e n hb hx => ?_, I.base.free, fun b o e hx => ?_, I.base.tups, I.base.frzs, I.base.tbls⟩, ⟨_, hn', fun j y v' e1 e2 e3 => ?_⟩, fun y c e => ?_, I.free, I.freeC, fun p hp => ?_, tracked, by simpa using I.len⟩
  · exact (hs.2 b (low b o e)).trans (I.base.keep b o e n hb hx)
  · obtain ⟨sl, e1⟩ := I.base.slot b o e n hb hx
    exact ⟨sl, (hs.2 b (low b o e)).trans e1⟩
  · obtain ⟨o', e1⟩ := I.base.there b o e hx
    exact ⟨o', (hs.2 b (low b o e)).trans e1⟩
  · by_cases hj : j = i
    · subst hj
      rw [List.getElem?_set_self hiσ] at e2
      cases e2
    · rw [List.getElem?_set_ne (Ne.symm hj)] at e2
      obtain ⟨u', r', q⟩ := hl j y v' e1 e2 e3
      refine ⟨u', r', ?_⟩
      rcases q with ⟨k, e⟩ | ⟨k, c, e, z⟩
      · refine .inl ⟨k, ?_⟩
        have : y ≠ n := fun e => hj (nodup_ix hN e1 (e ▸ hi))
        simp [this, e]
      · exact .inr ⟨k, c, e, z.sameBut hs (I.cne y c e)⟩
  · obtain ⟨w', z⟩ := I.cell y c e
    exact ⟨w', z.sameBut hs (I.cne y c e)⟩
  · obtain ⟨e, n, ne, nf, d⟩ := I.pin p hp
    exact ⟨(hs.2 p.1 ne).trans e, n, ne, nf, d⟩
end
theorem match_own {M : Model} {A : Around} {E : Value → Shared → Prop} {s : Shared} {K : Frag} {e C C' : Addr} {oe : Obj} {b : Bool} {Q : Bool → Shared → Prop} (X : K.In s.heap) (he : s.heap.get? e = some oe) (hc : oe.cls = .ref C)
    (k : kitCls K (.ref C) (.ref C') = some b) (hb : mroIn K C' (.type "BaseException") = some true) (q : Q b s) : wpAny M A (excMatches (.ref e) (.ref C')) Q E s := by
  obtain ⟨hty, his, hsub⟩ := kit_cls (M := M) X k
  obtain ⟨hh, g, d, t, os⟩ := s
  have L1 : Looks M hh (isInstance (.ref C') (.type "tuple")) false := hty.andThen (Looks.of_pure tc_notTuple)
  have L2 : Looks M hh (isExcClass (.ref C')) true := by
    unfold isExcClass
    refine his.andThen ?_
    rw [if_pos rfl]
    exact looks_mroIn X hb
  have L3 : Looks M hh (typeOf (.ref e)) (.ref C) := hc ▸ (Looks.ld he).andThen .now
  unfold excMatches
  refine wpAny_bind (L1.here (s := ⟨hh, g, d, t, os⟩) ?_)
  simp only [Bool.false_eq_true, if_false]
  refine wpAny_bind (wpAny_pure (wpAny_bind ?_))
  rw [List.forIn_cons]
  refine wpAny_bind (wpAny_bind (L2.here (s := ⟨hh, g, d, t, os⟩) ?_))
  simp only [Bool.not_true, Bool.false_eq_true, if_false]
  refine wpAny_pure ?_
  dsimp only
  rw [List.forIn_nil]
  refine wpAny_pure (wpAny_bind (L3.here (s := ⟨hh, g, d, t, os⟩) (wpAny_bind ?_)))
  rw [List.forIn_cons]
  refine wpAny_bind (wpAny_bind (hsub.here (s := ⟨hh, g, d, t, os⟩) ?_))
  cases b with
  | true => exact wpAny_pure (wpAny_pure (wpAny_pure q))
  | false =>
    simp only [Bool.false_eq_true, if_false]
    refine wpAny_pure ?_
    dsimp only
    rw [List.forIn_nil]
    exact wpAny_pure (wpAny_pure q)
end RX
set_option maxHeartbeats 4000000
set_option maxRecDepth 100000
namespace RX
open PySem PySem.Spec PyProof.Rows L2 PySem.W
abbrev TH := L2.St → Value → Option Addr → Hp → Ends → Prop
def PH (X : Cx) (hs : List ExceptHandler) (th : TH) : Prop := ∀ (pins : List (Addr × Obj)) (σ : L2.St) (H0 : Hp) (s0 : Shared) (e : Addr) (cls : Value) (od : Option Addr) (H' : Hp) (B : Heap) (s' : Shared) (D : Ends),
  L2.Inv X pins σ H0 s0 → Ly X H0 s0 e cls od H' B .none s' → th σ cls od H' D → wpAny (model X.prog X.w) X.A (handleBy (.ref e) X.env hs) (SP X pins D) X.xe s'
abbrev tryX (X : Cx) (pn : List (Addr × Obj)) (E : Value → Shared → Prop) : Cx := { X with pn := pn, xe := E }
def Takes (X : Cx) (Ex : L2.St → XK) : Prop := ∀ (pins : List (Addr × Obj)) (σ : L2.St) (H : Hp) (s : Shared) (e : Value) (s' : Shared), L2.Inv X pins σ H s → CXe X.prog X.w X.stack H s (Ex σ) e s' → X.xe e s'
def sTry (tb : (L2.St → XK) → TS) (th : TH) : TS := fun D σ H => tb (fun σ' cls od H' => th σ' cls od H' D) D σ H
section
variable {X : Cx} {body suite : List Stmt} {h₀ : ExceptHandler} {hs rest : List ExceptHandler} {tb : (L2.St → XK) → TS} {th : TH} {pos hpos cp : Pos}
theorem ps_try (hst : X.stack = X.env :: X.outer) (hf : X.env.frame = some X.env.locals) (hb : ∀ pn E Ex, Takes (tryX X pn E) Ex → PSs (tryX X pn E) body (tb Ex)) (hh : PH X (h₀ :: hs) th) : PS X (.Try body (h₀ :: hs) [] [] pos) (sTry tb th) := by
  intro pins s σ H D I h
  refine wpAny_Try_except ?_
  refine wpAny_mono (hb (X.pn ++ pins) (fun ev s₁ => wpAny (model X.prog X.w) X.A (noteFrame ev X.env) (fun _ s₂ => wpAny (model X.prog X.w) X.A (setFlight ev none) (fun _ s₃ => wpAny (model X.prog X.w) X.A (handleBy ev X.env (h₀ :: hs)) (SP X pins D) X.xe s₃) X.xe s₂) X.xe s₁)
    (fun σ' cls od H' => th σ' cls od H' D) (fun pins' σ' H1 s1 ev s' I1 x => ?_) [] s σ H D (inv_pn I fun p hp => hp) h) (fun f s1 q => ?_) fun _ _ q => q
  · have I2 : L2.Inv X pins σ' H1 s1 := inv_unpn I.ok I1 fun p hp => hp
    obtain ⟨e, cls, od, H', B, rfl, os, bare, un, hok, fl, k1, k2, q⟩ := x
    have y : Ly X H1 s1 e cls od H' B .none s' := ⟨os, bare, un, hok, fl, k1, k2⟩
    have fl' : Fl B (X.env :: X.outer) e cls od .none s'.heap := by rw [← hst]; exact fl
    show wpAny (model X.prog X.w) X.A (noteFrame (.ref e) X.env) _ _ s'
    refine note_on (by rw [← hst]; exact I.ok.frames) hf fl' fun h1 f1 u1 => ?_
    rw [← hst] at f1
    have y1 := y.to I2 f1 u1
    refine flight_off (s := { s' with heap := h1 }) f1 fun h2 f2 u2 => ?_
    exact hh pins σ' H1 s1 e cls od H' B _ D I2 (y1.to I2 f2 u2) q
  · have up : ∀ {σ' : L2.St} {H' : Hp} {EE : Value → Shared → Prop}, L2.Inv (tryX X (X.pn ++ pins) EE) [] σ' H' s1 → L2.Inv X pins σ' H' s1 := fun J => inv_unpn I.ok J fun p hp => hp
    cases f with
    | next => obtain ⟨σ', H', J, r⟩ := q; exact wpAny_pure ⟨σ', H', up J, r⟩
    | brk => obtain ⟨σ', H', J, r⟩ := q; exact ⟨σ', H', up J, r⟩
    | cont => obtain ⟨σ', H', J, r⟩ := q; exact ⟨σ', H', up J, r⟩
    | ret u => obtain ⟨v, σ', H', J, rv, r⟩ := q; exact ⟨v, σ', H', up J, rv, r⟩
theorem ph_nil : PH X [] (fun _ _ _ _ _ => False) := fun _ _ _ _ _ _ _ _ _ _ _ _ _ h => h.elim
def unE (i : Nat) (D : Ends) : Ends := { nx := fun σ H => D.nx (σ.set i none) H, rt := D.rt, bk := fun σ H => D.bk (σ.set i none) H, ct := fun σ H => D.ct (σ.set i none) H }
def thAs (K : Frag) (C' : Addr) (i : Nat) (ts : TS) (th : TH) : TH := fun σ cls od H D => ∃ C b, cls = .ref C ∧ kitCls K (.ref C) (.ref C') = some b ∧
  if b = true then ∀ e, H e = none → ts (unE i D) (σ.set i (some (.ref e))) (upd H e (XO C od e)) else th σ cls od H D
theorem ph_as {c n : Str} {C' : Addr} {i : Nat} {b₀ : Stmt} {ts : TS} (hg : Gl X c) (hm : X.mg c = some (.ref C')) (hbe : mroIn X.K C' (.type "BaseException") = some true) (hN : X.N.Nodup) (hi : X.N[i]? = some n)
    (hk : X.env.scope.names.lookup n = some .local) (hs : ∀ e, PSs (mrk X e) (b₀ :: suite) ts) (hr : PH X rest th) (hdb : (c == ("__debug__" : Str)) = false := by decide) :
    PH X (.ExceptHandler (some (.Name c cp)) (some n) (b₀ :: suite) hpos :: rest) (thAs X.K C' i ts th) := by
  intro pins σ H0 s0 e cls od H' B s' D I y h
  obtain ⟨C, b, rfl, hkit, h⟩ := h
  have J := y.inv I
  have Jm := inv_mrk J e
  obtain ⟨oe, vs, _, _, _, he, ⟨hc, _⟩, _⟩ := y.fly.trace
  refine wpAny_handleBy_cons (codeAny_handlers_test (ld_glob (X := mrk X e) Jm hg hm ?_ hdb)) (by intro q; cases q)
  refine match_own J.kIn he hc hkit hbe ?_
  cases b with
  | false =>
    rw [if_neg (by decide)] at h
    exact hr pins σ H0 s0 e _ od H' B s' D I y h
  | true =>
    rw [if_pos rfl] at h
    refine codeAny_handlers_suite_as ?_
    refine flight_off y.fly fun h2 f2 u2 => ?_
    have y2 := y.to I f2 u2
    have J2 := inv_mrk (y2.track I) e
    refine store_ok (X := mrk X e) J2 hN hi (.inl hk) (v := .ref e) rfl (fun s3 J3 => ?_) (.inr hk)
    refine wpAny_mono (hs e pins s3 _ _ (unE i D) J3 (h e y.free)) (fun f s4 q => ?_) fun _ _ z => False.elim z
    have ok := I.ok
    cases f with
    | next => obtain ⟨σ', H4, J4, r⟩ := q; exact goes_ok (inv_unmrk ok J4) hN hi hk fun s5 J5 => ⟨_, _, J5, r⟩
    | brk => obtain ⟨σ', H4, J4, r⟩ := q; exact goes_ok (inv_unmrk ok J4) hN hi hk fun s5 J5 => ⟨_, _, J5, r⟩
    | cont => obtain ⟨σ', H4, J4, r⟩ := q; exact goes_ok (inv_unmrk ok J4) hN hi hk fun s5 J5 => ⟨_, _, J5, r⟩
    | ret u => obtain ⟨v, σ', H4, J4, rv, r⟩ := q; exact goes_ok (inv_unmrk ok J4) hN hi hk fun s5 J5 => ⟨v, _, _, J5, rv, r⟩
end
def tCallX (sp : Sp) (dvs : List V) (Ex : L2.St → XK) (t : TA) : TE := fun σ H Q => t σ H fun vs H1 => sp (vs ++ dvs) H1 Q (Ex σ)
section
variable {X : Cx} {k : Nat} {f : Addr} {fd : FuncData} {ps : List Str} {sp : Sp} {dvs : List V} {ds : List Value} {Ex : L2.St → XK} {x : Str} {p pos : Pos} {e : Expr} {es : List Expr} {t : TA}
theorem pe_callX (F : FnOk X.prog X.w X.K X.mg X.base (CXe X.prog X.w) k f fd ps sp) (hr : Room k X.A) (hg : Gl X x) (hm : X.mg x = some (.ref f)) (hk : PySem.W.keepIn X.K (.ref f) = true) (hb : L2.Binds X.K fd ps ds) (hd : Vals dvs ds) (hx : Takes X Ex)
    (ha : PA X (e :: es) t) (hdb : (x == ("__debug__" : Str)) = false := by decide) (he : starEach (e :: es) X.env = (false, eval e X.env) :: starEach es X.env := by rfl) (hpl : (backTo pos (starEach es X.env)).any (·.1) = false := by rfl) :
    PE X (.Call (.Name x p) (e :: es) [] pos) (tCallX sp dvs Ex t) := by
  intro pins s σ H Q I h
  refine wpAny_Call_Name_kw (ld_glob I hg hm ?_ hdb)
  refine PySem.W.callWith_K (h₀ := X.base) I.ok.mod.kin hk (thn (ha pos pins s σ H _ I h) fun us s1 ⟨vs, H1, I1, r, q⟩ => ⟨I1.kIn, ?_⟩) he hpl
  have r2 : Vals (vs ++ dvs) (us ++ ds) := r.append hd
  have hl : (us ++ ds).length = ps.length := by rw [← r2.length]; exact F.len _ _ _ _ q
  refine wpAny_call (codeAny_mono (F.run X.A X.stack s1 H1 ⟨us, []⟩ (us ++ ds) (vs ++ dvs) Q (Ex σ) hr I1.env0 (hb s1 us I1.kIn hl) r2 q) fun r s' hq => ?_)
  cases r with
  | error e => exact hx pins σ H1 s1 e s' I1 hq
  | ok fl =>
    cases fl with
    | ret u => exact I1.after hq
    | next => exact False.elim hq
    | brk => exact False.elim hq
    | cont => exact False.elim hq
end
end RX
set_option maxHeartbeats 4000000
set_option maxRecDepth 100000
namespace RX
open PySem PySem.Spec PyProof.Rows L2 PySem.W
structure RoomM (k : Nat) (A : Around) : Prop where
  dp : A.depth + 3 * k + 5 < recursionLimit
  un : A.units + 16 * k + 200 < cLine
theorem RoomM.units {k : Nat} {A : Around} (r : RoomM k A) : A.units + 64 < cLine := by have := r.un; omega
structure FnM (P : Program) (w : World) (K : Frag) (mg : Str → Option Value) (base : Heap) (k : Nat) (f : Addr) (fd : FuncData) (ps : List Str) (sp : Sp) : Prop where
  len : ∀ vs H Q E, sp vs H Q E → vs.length = ps.length
  run : ∀ (A : Around) (outer : List Env) (s : Shared) (H : Hp) (args : Args) (us : List Value) (vs : List V) (Q : VK), RoomM k A → Env0 P w K mg base A outer s H → BindsTo s fd args (ps.zip us) → Vals vs us → sp vs H Q E0 →
    codeAny (model P w) A (.call (.ref f) args) (CR CX0 outer P w H s Q E0) s
theorem funX_ok {P : Program} {w : World} {K : Frag} {mg : Str → Option Value} {base : Heap} {x qual : Str} {st : Stmt} {f : Addr} {fd : FuncData} {N ps : List Str} {k : Nat} {sp : Sp} (F : L2.Fun K x qual st f fd) (S : FnScope N ps (L2.defScope st)) (len : ∀ vs H Q E, sp vs H Q E → vs.length = ps.length)
    (hbody : ∀ (cdv : Value) (A : Around) (outer : List Env) (s : Shared) (H : Hp) (vs : List V) (Q : VK) (E : XK), Room k (A.deeper (envOfC qual (L2.defScope st) s.heap.objs.size f cdv)) → sp vs H Q E →
      ∃ t, PSs (cxOf (CXe P w) P w K mg base N qual (L2.defScope st) f cdv A outer s H E) (L2.defBody st) t ∧ t { nx := fun _ H' => Q .non H', rt := Q } (start N vs) H) : FnOk P w K mg base (CXe P w) (k + 1) f fd ps sp := by
  obtain ⟨oc, od, kV, doc, pm, an, cdv, ct, osl, rfl, lk, hcd⟩ := F.ex
  exact fn_of lk hcd S len fun A outer s H vs Q E hr hsp => hbody cdv A outer s H vs Q E hr hsp
end RX
set_option Elab.async false
set_option linter.all false
set_option maxRecDepth 100000
set_option maxHeartbeats 4000000
namespace My
open PySem L2
def Pap (H : Hp) (es : List (Nat × Nat)) (n : Nat) (M : Int) (N : Int) (v : V) : Prop :=
  (N = M ∧ ∃ (u : Addr) (x : Nat), v = .ref u ∧ H u = some (.tup [.str "point", .int (x : Int)]) ∧ (firsts es M n)[0]? = some x) ∨
  (M < N ∧ ∃ (u t : Addr) (l : List Nat), v = .ref u ∧ H u = some (.tup [.str "part", .ref t]) ∧ H t = some (.tup (nl l)) ∧ l ∈ parts n ∧ (barN es l : Int) = N)
theorem Pap.same {H H' : Hp} {es : List (Nat × Nat)} {n : Nat} {M N : Int} {v : V} (h : Pap H es n M N v) (s : Same H H') : Pap H' es n M N v := by
  rcases h with ⟨a, u, x, b, c, d⟩ | ⟨a, u, t, l, b, c, d, e⟩
  · exact .inl ⟨a, u, x, b, s _ _ c, d⟩
  · exact .inr ⟨a, u, t, l, b, s _ _ c, s _ _ d, e⟩
def stepB (es : List (Nat × Nat)) (s : Int × Option (List Nat)) (l : List Nat) : Int × Option (List Nat) := if s.1 < (barN es l : Int) then ((barN es l : Int), some l) else s
def bestB (es : List (Nat × Nat)) (n : Nat) (M : Int) (i : Nat) : Int × Option (List Nat) := ((parts n).take i).foldl (stepB es) (M, none)
theorem best_succ {es : List (Nat × Nat)} {n : Nat} {M : Int} {i : Nat} {l : List Nat} (h : (parts n)[i]? = some l) : bestB es n M (i + 1) = stepB es (bestB es n M i) l := by
  unfold bestB
  rw [List.take_succ, h]
  exact List.foldl_append
def PapO (H : Hp) (es : List (Nat × Nat)) (n : Nat) (M : Int) (o : Option (List Nat)) (v : V) : Prop :=
  (o = none ∧ ∃ (u : Addr) (x : Nat), v = .ref u ∧ H u = some (.tup [.str "point", .int (x : Int)]) ∧ (firsts es M n)[0]? = some x) ∨
  (∃ (u t : Addr) (l : List Nat), o = some l ∧ v = .ref u ∧ H u = some (.tup [.str "part", .ref t]) ∧ H t = some (.tup (nl l)))
theorem PapO.tk {H H' : Hp} {es : List (Nat × Nat)} {n : Nat} {M : Int} {o : Option (List Nat)} {v : V} (h : PapO H es n M o v) (s : ∀ q xs, H q = some (.tup xs) → H' q = some (.tup xs)) : PapO H' es n M o v := by
  rcases h with ⟨a, u, x, b, c, d⟩ | ⟨u, t, l, a, b, c, d⟩
  · exact .inl ⟨a, u, x, b, s _ _ c, d⟩
  · exact .inr ⟨u, t, l, a, b, s _ _ c, s _ _ d⟩
theorem PapO.same {H H' : Hp} {es : List (Nat × Nat)} {n : Nat} {M : Int} {o : Option (List Nat)} {v : V} (h : PapO H es n M o v) (s : Same H H') : PapO H' es n M o v := h.tk fun q xs e => s _ _ e
def Bd (H : Hp) (es : List (Nat × Nat)) (n : Nat) (t : Addr) : Prop := ∃ M, IsMax (dl es n) M ∧ ((M = 0 ∧ H t = some (.tup [.int 0, .non])) ∨ (0 < M ∧ ∃ (N : Int) (v : V), H t = some (.tup [.int N, v]) ∧ M ≤ N ∧ (∀ l ∈ parts n, (barN es l : Int) ≤ N) ∧ Pap H es n M N v ∧ ∃ o, bestB es n M (parts n).length = (N, o) ∧ PapO H es n M o v))
theorem Bd.tk {H H' : Hp} {es : List (Nat × Nat)} {n : Nat} {t : Addr} (h : Bd H es n t) (s : ∀ q xs, H q = some (.tup xs) → H' q = some (.tup xs)) : Bd H' es n t := by
  obtain ⟨M, hM, ⟨a, b⟩ | ⟨a, N, v, b, c, d, e, o, ho, hp⟩⟩ := h
  · exact ⟨M, hM, .inl ⟨a, s _ _ b⟩⟩
  · refine ⟨M, hM, .inr ⟨a, N, v, s _ _ b, c, d, ?_, o, ho, hp.tk s⟩⟩
    rcases e with ⟨a, u, x, b, c, d⟩ | ⟨a, u, t, l, b, c, d, e⟩
    · exact .inl ⟨a, u, x, b, s _ _ c, d⟩
    · exact .inr ⟨a, u, t, l, b, s _ _ c, s _ _ d, e⟩
theorem Bd.same {H H' : Hp} {es : List (Nat × Nat)} {n : Nat} {t : Addr} (h : Bd H es n t) (s : Same H H') : Bd H' es n t := h.tk fun q xs e => s _ _ e
section
variable {P : Program} {w : World} {K : PySem.W.Frag} {mg : Str → Option Value} {base : Heap}
abbrev sBd : Stmt := top 15
abbrev nBd : List Str := ["net", "most", "number", "paper", "part", "barred"]
def spBd : Sp := fun vs H Q _ => ∃ (p : Addr) (n : Nat) (q : Addr) (ts : List V) (es : List (Nat × Nat)), vs = [.ref p] ∧ NetZ H p n q ts es ∧ n ≤ 9 ∧ ∀ H' t, Same H H' → Bd H' es n t → Q (.ref t) H'
theorem scBd : FnScope nBd ["net"] (defScope sBd) := ⟨rfl, rfl, rfl, by decide +kernel, rfl, by decide +kernel, by decide +kernel⟩
theorem ok_bd {f : Addr} {fd : FuncData} {tA : Tok} (F : Fun K "bound" "bound" sBd f fd) (mA : mg "MOST_BOUND_POINTS" = some (.int 9 tA)) (FMo : FnE P w K mg base "most_of" ["net"] 4 spMo) (FFc : FnE P w K mg base "first_crowded" ["net", "most"] 4 spFc) (FPo : FnE P w K mg base "parts_of" ["net"] 4 spPo) (FBr : FnE P w K mg base "bar" ["net", "part"] 4 spBr) : FnOk P w K mg base CX0 5 f fd ["net"] spBd := by
  refine F.ok scBd (fun vs H Q E h => ?_) (fun cdv A outer s H vs Q E hr h => ?_)
  · obtain ⟨p, n, q, ts, es, rfl, _⟩ := h
    rfl
  · obtain ⟨p, n, qa, ts, es, rfl, N, n9, q⟩ := h
    refine ⟨_, pss_cons (ps_if (pt_cmpR op_gt (pe_ix ix_tup (pv 0) pe_int (fun _ _ => rfl)) (pe_glob (v := .int 9) rfl mA ⟨_, rfl⟩) (nomark _)) pss_never pss_nil)
      (pss_cons (ps_set (i := 1) scBd.nd rfl (Or.inl rfl) (pe_fc FMo hr (pa_c (pv 0) pa_nil)))
      (pss_cons (ps_if (pt_cmpR op_eq (pv 1) pe_int (nomark _)) (pss_one (ps_ret (pe_tupS (pa_c pe_int (pa_c pe_non pa_nil))))) pss_nil)
      (pss_cons (ps_set (i := 2) scBd.nd rfl (Or.inl rfl) (pv 1))
      (pss_cons (ps_set (i := 3) scBd.nd rfl (Or.inl rfl) (pe_tupS (pa_c pe_str (pa_c (pe_fc FFc hr (pa_c (pv 0) (pa_c (pv 1) pa_nil))) pa_nil))))
      (pss_cons (ps_for PassesOwn.never rfl (pi_list (pe_fc FPo hr (pa_c (pv 0) pa_nil))) (pg_name (i := 4) scBd.nd rfl (Or.inl rfl))
        (pss_cons (ps_set (i := 5) scBd.nd rfl (Or.inl rfl) (pe_fc FBr hr (pa_c (pv 0) (pa_c (pv 4) pa_nil))))
        (pss_one (ps_if (pt_cmpR op_gt (pv 5) (pv 2) (nomark _)) (pss_cons (ps_set (i := 2) scBd.nd rfl (Or.inl rfl) (pv 5)) (pss_one (ps_set (i := 3) scBd.nd rfl (Or.inl rfl) (pe_tupS (pa_c pe_str (pa_c (pv 4) pa_nil)))))) pss_nil))))
      (pss_one (ps_ret (pe_tupS (pa_c (pv 2) (pa_c (pv 3) pa_nil)))))))))), ?_⟩
    refine ⟨_, rfl, p, _, _, _, rfl, rfl, SqT.of N.e1, rfl, _, _, rfl, rfl, _, rfl, ?_⟩
    refine ite2 (fun z => absurd (of_decide_eq_true z) (by omega)) (fun _ => ?_)
    refine ⟨_, rfl, p, n, qa, ts, es, rfl, N, fun H1 M s1 hM => ?_⟩
    have m0 := most_nn hM
    refine ⟨_, rfl, rfl, _, rfl, ?_⟩
    refine ite2 (fun z => ?_) (fun z => ?_)
    · have e : M = 0 := V.int.inj (of_decide_eq_true z)
      exact ⟨rfl, fun t H2 s2 ht => q H2 t (Same.trans s1 s2) ⟨M, hM, .inl ⟨e, ht⟩⟩⟩
    · have hM0 : 0 < M := by
        have : M ≠ 0 := fun y => z (decide_eq_true (by rw [y]))
        omega
      have hn : 0 < n := by
        rcases Nat.eq_zero_or_pos n with y | y
        · subst y
          rcases hM with ⟨_, y⟩ | ⟨y, _⟩
          · omega
          · unfold dl at y
            cases y
        · exact y
      refine ⟨_, rfl, _, rfl, _, rfl, p, n, qa, ts, es, M, rfl, N.same s1, hM, hn, fun H2 x s2 hx => ⟨rfl, fun u0 H3 s3 hu0 => ?_⟩⟩
      have s03 := Same.trans s1 (Same.trans s2 s3)
      refine ⟨_, rfl, p, n, qa, ts, es, rfl, N.same s03, n9, fun H4 d s4 ⟨tr, h1, h2, h3⟩ => ?_⟩
      have s04 := Same.trans s03 s4
      refine ⟨d, rfl, ⟨_, SqL.of h1⟩, for_list (K := K) (a := d) (xs := tr.map fun x => V.ref x.1) (fun i σ G => Same H4 G ∧ ∃ NN v v4 v5, σ = [some (.ref p), some (.int M), some (.int NN), some v, v4, v5] ∧ M ≤ NN ∧ (∀ l ∈ (parts n).take i, (barN es l : Int) ≤ NN) ∧ Pap G es n M NN v ∧ ∃ o, bestB es n M i = (NN, o) ∧ PapO G es n M o v)
        ⟨Same.refl _, M, .ref u0, _, _, rfl, Int.le_refl _, (fun l hl => by cases hl), .inl ⟨rfl, u0, x, rfl, s4 _ _ hu0, hx⟩, none, rfl, .inl ⟨rfl, u0, x, rfl, s4 _ _ hu0, hx⟩⟩ (fun i σ G _ z => SqL.of (z.1 _ _ h1)) (fun i y σ G hy ⟨sG, NN, v, v4, v5, e, hle, hall, hP, o, hO, hPO⟩ => ?_) (fun σ G ⟨sG, NN, v, v4, v5, e, hle, hall, hP, o, hO, hPO⟩ => ?_)⟩
      · subst e
        rw [List.getElem?_map] at hy
        cases ht : tr[i]? with
        | none => rw [ht] at hy; cases hy
        | some z =>
          rw [ht] at hy
          cases hy
          have hpi : (parts n)[i]? = some z.2 := by rw [← h2, List.getElem?_map, ht]; rfl
          have hmem : z.2 ∈ parts n := List.mem_of_getElem? hpi
          obtain ⟨hsub, hz3, _⟩ := parts_mem.mp hmem
          have hzl := subs_short n _ hsub
          have htk : (parts n).take (i + 1) = (parts n).take i ++ [z.2] := by rw [List.take_succ, hpi]; rfl
          refine ⟨_, rfl, _, rfl, p, z.1, n, qa, ts, es, z.2, rfl, (N.same s04).same sG, sG _ _ (h3 z (List.mem_of_getElem? ht)), hz3, by omega, fun G1 sG1 => ?_⟩
          have sA := Same.trans sG sG1
          refine ⟨_, rfl, _, rfl, _, _, rfl, rfl, _, rfl, ?_⟩
          have hO' := best_succ (es := es) (M := M) hpi
          rw [hO] at hO'
          unfold stepB at hO'
          refine ite2 (fun w1 => ?_) (fun w1 => ?_)
          · have hgt : NN < (barN es z.2 : Int) := of_decide_eq_true w1
            refine ⟨_, rfl, _, rfl, rfl, fun u G2 s2' hu => ?_⟩
            refine ⟨Same.trans sA s2', _, _, _, _, rfl, by omega, fun l hl => ?_, .inr ⟨by omega, u, z.1, z.2, rfl, hu, s2' _ _ (sA _ _ (h3 z (List.mem_of_getElem? ht))), hmem, rfl⟩, some z.2, (by rw [hO', if_pos hgt]), .inr ⟨u, z.1, z.2, rfl, rfl, hu, s2' _ _ (sA _ _ (h3 z (List.mem_of_getElem? ht)))⟩⟩
            rw [htk] at hl
            rcases List.mem_append.mp hl with y | y
            · have := hall l y
              omega
            · rw [List.mem_singleton.mp y]
              exact Int.le_refl _
          · have hge : ¬ NN < (barN es z.2 : Int) := fun y => w1 (decide_eq_true y)
            refine ⟨sA, NN, v, _, _, rfl, hle, fun l hl => ?_, hP.same sG1, o, (by rw [hO', if_neg hge]), hPO.same sG1⟩
            rw [htk] at hl
            rcases List.mem_append.mp hl with y | y
            · exact hall l y
            · rw [List.mem_singleton.mp y]
              omega
      · subst e
        rw [List.length_map, ← List.length_map (f := (·.2)), h2] at hO
        rw [List.length_map, ← List.length_map (f := (·.2)), h2, List.take_length] at hall
        exact ⟨_, rfl, _, rfl, rfl, fun t G2 s2' ht => q G2 t (Same.trans s04 (Same.trans sG s2')) ⟨M, hM, .inr ⟨hM0, NN, v, ht, hle, hall, hP.same s2', o, hO, hPO.same s2'⟩⟩⟩
def spBdX (C : Addr) : Sp := fun vs H _ E => ∃ (p : Addr) (n : Int) (v : V), vs = [.ref p] ∧ H p = some (.tup [.int n, v]) ∧ 9 < n ∧ ∀ H' dx, Same H H' → H' dx = none → E (.ref C) (some dx) (upd H' dx (.xd [("most", .int 9)]))
theorem ok_bdX {f C D fI : Addr} {fd fdI : FuncData} {tA : Tok} (F : Fun K "bound" "bound" sBd f fd) (mA : mg "MOST_BOUND_POINTS" = some (.int 9 tA)) (c : RX.XCl K C D) (hi : PySem.W.findIn K (.ref C) "__init__" = some (some (.ref fI))) (hfn : PySem.W.isFn K (.ref fI) = true)
    (FI : FnOk P w K mg base CX0 3 fI fdI ["self", "most"] (RX.spInit C "most")) (hb : L2.Binds K fdI ["self", "most"] []) (hm : mg "TooGreat" = some (.ref C)) :
    FnOk P w K mg base (RX.CXe P w) 5 f fd ["net"] (spBdX C) := by
  refine RX.funX_ok F scBd (fun vs H Q E h => ?_) (fun cdv A outer s H vs Q E hr h => ?_)
  · obtain ⟨p, n, v, rfl, _⟩ := h
    rfl
  · obtain ⟨p, n, v, rfl, hp, n9, q⟩ := h
    refine ⟨_, pss_cons (ps_if (PT.nox (pt_cmpR op_gt (pe_ix ix_tup (pv 0) pe_int (fun _ _ => rfl)) (pe_glob (v := .int 9) rfl mA ⟨_, rfl⟩) (nomark _))) (pss_one (RX.ps_raiseF c hi hfn FI hr hb rfl hm (pa_c (pe_glob (v := .int 9) rfl mA ⟨_, rfl⟩) pa_nil) rfl rfl rfl (fun _ _ h => h))) pss_nil) pss_never, ?_⟩
    refine ⟨_, rfl, p, _, _, _, rfl, rfl, SqT.of hp, rfl, _, _, rfl, rfl, _, rfl, ?_⟩
    refine ite2 (fun _ => ?_) (fun z => absurd (decide_eq_true n9) z)
    exact ⟨_, rfl, fun dx hdx => q H dx (Same.refl _) hdx⟩
abbrev sTg : Stmt := inClass (top 5) 0
theorem scTg : FnScope ["self", "most"] ["self", "most"] (defScope sTg) := ⟨rfl, rfl, rfl, by decide +kernel, rfl, by decide +kernel, by decide +kernel⟩
theorem ok_tg {f C D : Addr} {fd : FuncData} (F : Fun K "__init__" "TooGreat.__init__" sTg f fd) (c : RX.XCl K C D) (hn : PySem.W.findIn K (.ref C) "most" = some none) : FnOk P w K mg base CX0 1 f fd ["self", "most"] (RX.spInit C "most") := by
  refine F.ok scTg (fun vs H Q E h => ?_) (fun cdv A outer s H vs Q E hr h => ?_)
  · obtain ⟨e, fv, y, rfl, _⟩ := h
    rfl
  · obtain ⟨e, fv, y, rfl, he, q⟩ := h
    refine ⟨_, pss_one (RX.ps_fldX (pv 0) (pv 1) rfl), ?_⟩
    exact ⟨_, rfl, _, rfl, e, C, D, fv, rfl, he, c, hn, fun dx h1 h2 => q dx h1 h2⟩
end
end My
set_option Elab.async false
set_option linter.all false
set_option maxRecDepth 100000
set_option maxHeartbeats 4000000
namespace My
open PySem L2
section
variable {P : Program} {w : World} {K : PySem.W.Frag} {mg : Str → Option Value} {base : Heap}
abbrev sLi : Stmt := top 23
def spLi : Sp := fun vs H Q _ => ∃ i j : Int, vs = [.int i, .int j] ∧ Q (.bl (decide (i = j))) H
theorem scLi : FnScope ["_law_found", "_law_due"] ["_law_found", "_law_due"] (defScope sLi) := ⟨rfl, rfl, rfl, by decide +kernel, rfl, by decide +kernel, by decide +kernel⟩
theorem ok_li {f : Addr} {fd : FuncData} (F : Fun K "_law_is" "_law_is" sLi f fd) (T : Bi mg) : FnOk P w K mg base CX0 1 f fd ["_law_found", "_law_due"] spLi := by
  refine F.ok scLi (fun vs H Q E h => ?_) (fun cdv A outer s H vs Q E hr h => ?_)
  · obtain ⟨i, j, rfl, _⟩ := h
    rfl
  · obtain ⟨i, j, rfl, q⟩ := h
    refine ⟨_, pss_one (ps_ret (pe_and (pe_callB call_isinst rfl T.isi bIsi (pa_c (pv 0) (pa_c (pe_bltn (v := .ty "int") rfl T.int bInt rfl) pa_nil)))
      (pe_and (pe_not (pe_callB call_isinst rfl T.isi bIsi (pa_c (pv 0) (pa_c (pe_bltn (v := .ty "bool") rfl T.bool bBool rfl) pa_nil)))) (pe_one (pe_cmpR op_eq (pv 0) (pv 1) (nomark _)))))), ?_⟩
    refine ⟨_, rfl, _, _, _, _, rfl, .int i, kit K "int" "int" true (by decide +kernel), _, rfl, iteT ?_⟩
    refine ⟨_, rfl, _, _, _, _, rfl, .int i, kit K "int" "bool" false (by decide +kernel), _, rfl, _, rfl, iteT ?_⟩
    refine ⟨_, rfl, _, rfl, rfl, ?_⟩
    have e : decide (V.int i = V.int j) = decide (i = j) := decide_eq_decide.mpr ⟨fun z => V.int.inj z, fun z => by rw [z]⟩
    rw [e]
    exact q
abbrev sIp : Stmt := top 24
abbrev nIp : List Str := ["_law_net_here", "_law_part_here", "_law_k"]
def spIp : Sp := fun vs H Q _ => ∃ (p t : Addr) (n : Nat) (q : Addr) (ts : List V) (es : List (Nat × Nat)) (l : List Nat), vs = [.ref p, .ref t] ∧ NetZ H p n q ts es ∧ H t = some (.tup (nl l)) ∧ l ∈ parts n ∧ Q (.bl true) H
theorem scIp : FnScope nIp ["_law_net_here", "_law_part_here"] (defScope sIp) := ⟨rfl, rfl, rfl, by decide +kernel, rfl, by decide +kernel, by decide +kernel⟩
theorem ok_ip {f : Addr} {fd : FuncData} (F : Fun K "_law_is_part" "_law_is_part" sIp f fd) (T : Bi mg) : FnOk P w K mg base CX0 1 f fd ["_law_net_here", "_law_part_here"] spIp := by
  refine F.ok scIp (fun vs H Q E h => ?_) (fun cdv A outer s H vs Q E hr h => ?_)
  · obtain ⟨p, t, n, q, ts, es, l, rfl, _⟩ := h
    rfl
  · obtain ⟨p, t, n, qa, ts, es, l, rfl, N, ht, hl, q⟩ := h
    obtain ⟨hsub, h3, hodd⟩ := parts_mem.mp hl
    obtain ⟨hrise, hlow⟩ := subs_rise n l hsub
    have hsh := subs_short n l hsub
    have h60 := N.n60
    refine ⟨_, pss_cons (ps_if (PW.pt (pw_or (pt_not (pt_val (pe_callB call_isinst rfl T.isi bIsi (pa_c (pv 1) (pa_c (pe_bltn (v := .ty "tuple") rfl T.tuple bTuple rfl) pa_nil)))))
        (pw_or (pt_cmpR op_lt (pe_callB call_len_seq rfl T.len bLen (pa_c (pv 1) pa_nil)) pe_int (nomark _)) (pw_or1 (pt_cmpR op_eq (pe_op op_mod (pe_callB call_len_seq rfl T.len bLen (pa_c (pv 1) pa_nil)) pe_int) pe_int (nomark _)))))) (pss_one (ps_ret pe_bl)) pss_nil)
      (pss_cons (ps_for PassesOwn.never rfl (pi_range1 rfl T.range (pa_c (pe_callB call_len_seq rfl T.len bLen (pa_c (pv 1) pa_nil)) pa_nil)) (pg_name (i := 2) scIp.nd rfl (Or.inl rfl))
        (pss_cons (ps_if (PW.pt (pw_or (pt_not (pt_val (pe_callB call_isinst rfl T.isi bIsi (pa_c (pe_ix ix_tup (pv 1) (pv 2) (fun _ _ => rfl)) (pa_c (pe_bltn (v := .ty "int") rfl T.int bInt rfl) pa_nil)))))
          (pw_or (pt_val (pe_callB call_isinst rfl T.isi bIsi (pa_c (pe_ix ix_tup (pv 1) (pv 2) (fun _ _ => rfl)) (pa_c (pe_bltn (v := .ty "bool") rfl T.bool bBool rfl) pa_nil))))
          (pw_or (pt_cmpR op_lt (pe_ix ix_tup (pv 1) (pv 2) (fun _ _ => rfl)) pe_int (nomark _)) (pw_or1 (pt_cmpR op_ge (pe_ix ix_tup (pv 1) (pv 2) (fun _ _ => rfl)) (pe_ix ix_tup (pv 0) pe_int (fun _ _ => rfl)) (nomark _))))))) (pss_one (ps_ret pe_bl)) pss_nil)
        (pss_one (ps_if (PW.pt (pw_and (pt_cmpR op_gt (pv 2) pe_int (nomark _)) (pw_and1 (pt_cmpR op_ge (pe_ix ix_tup (pv 1) (pe_op op_sub (pv 2) pe_int) (fun _ _ => rfl)) (pe_ix ix_tup (pv 1) (pv 2) (fun _ _ => rfl)) (nomark _))))) (pss_one (ps_ret pe_bl)) pss_nil))))
      (pss_one (ps_ret pe_bl))), ?_⟩
    refine ⟨_, rfl, _, _, _, _, rfl, .tup ht, kit K "tuple" "tuple" true (by decide +kernel), _, rfl, iteF ?_⟩
    refine ⟨_, rfl, t, _, rfl, .inr (SqT.of ht), _, _, rfl, rfl, _, rfl, ?_⟩
    refine ite2 (fun z => absurd (of_decide_eq_true z) (by rw [nl_len]; omega)) (fun _ => ?_)
    refine ⟨_, rfl, t, _, rfl, .inr (SqT.of ht), _, _, rfl, rfl, (by show (0 : Int) < 2; decide), rfl, _, rfl, ?_⟩
    refine ite2 (fun z => absurd (V.int.inj (of_decide_eq_true z)) (by rw [nl_len]; omega)) (fun _ => ?_)
    refine ⟨_, rfl, t, _, rfl, .inr (SqT.of ht), _, rfl, (by rw [nl_len]; omega), (by rw [nl_len]; omega), for_range (lo := 0) (n := (((nl l).length : Nat) : Int).toNat) (fun k σ G => G = H ∧ ∃ v2, σ = [some (.ref p), some (.ref t), v2])
      ⟨rfl, _, rfl⟩ (fun k σ G hk ⟨eG, v2, e⟩ => ?_) (fun σ G ⟨eG, v2, e⟩ => ?_)⟩
    · subst eG e
      have hkl : k < l.length := by rw [Int.toNat_natCast, nl_len] at hk; exact hk
      have gk := List.getElem?_eq_getElem hkl
      have lowk := hlow _ (List.getElem_mem hkl)
      have ak : atI (nl l) (0 + (k : Int)) = some (.int ((l[k] : Nat) : Int)) := by rw [Int.zero_add]; exact atI_nat (nl_get gk)
      refine ⟨_, rfl, _, rfl, t, _, _, _, rfl, rfl, SqT.of ht, ak, _, _, _, _, rfl, .int _, kit K "int" "int" true (by decide +kernel), _, rfl, iteF ?_⟩
      refine ⟨_, rfl, _, rfl, t, _, _, _, rfl, rfl, SqT.of ht, ak, _, _, _, _, rfl, .int _, kit K "int" "bool" false (by decide +kernel), _, rfl, iteF ?_⟩
      refine ⟨_, rfl, _, rfl, t, _, _, _, rfl, rfl, SqT.of ht, ak, _, _, rfl, rfl, _, rfl, ?_⟩
      refine ite2 (fun z => absurd (of_decide_eq_true z) (by omega)) (fun _ => ?_)
      refine ⟨_, rfl, _, rfl, t, _, _, _, rfl, rfl, SqT.of ht, ak, _, rfl, p, _, _, _, rfl, rfl, SqT.of N.e1, rfl, _, _, rfl, rfl, _, rfl, ?_⟩
      refine ite2 (fun z => absurd (of_decide_eq_true z) (by omega)) (fun _ => ?_)
      refine ⟨_, rfl, _, _, rfl, rfl, _, rfl, ?_⟩
      refine ite2 (fun z => ?_) (fun _ => iteF ⟨rfl, _, rfl⟩)
      have hk0 : 0 < k := by have := of_decide_eq_true z; omega
      have hk1 : k - 1 < l.length := by omega
      have g1 := List.getElem?_eq_getElem hk1
      have a1 : atI (nl l) (0 + (k : Int) - 1) = some (.int ((l[k - 1] : Nat) : Int)) := by
        rw [show (0 : Int) + (k : Int) - 1 = ((k - 1 : Nat) : Int) by omega]
        exact atI_nat (nl_get g1)
      have hlt : l[k - 1] < l[k] := List.pairwise_iff_getElem.mp hrise (k - 1) k hk1 hkl (by omega)
      refine ⟨_, rfl, _, rfl, _, _, rfl, rfl, t, _, _, _, rfl, rfl, SqT.of ht, a1, _, rfl, _, rfl, t, _, _, _, rfl, rfl, SqT.of ht, ak, _, _, rfl, rfl, _, rfl, ?_⟩
      exact ite2 (fun z => absurd (of_decide_eq_true z) (by omega)) (fun _ => ⟨rfl, _, rfl⟩)
    · subst eG
      exact q
abbrev sWt : Stmt := top 27
def spWt : Sp := fun vs H Q _ => ∃ n : Nat, vs = [.int (n : Int)] ∧ n ≤ 1 ∧ ∀ H', Same H H' → Q (.bl true) H'
theorem scWt : FnScope ["_law_points", "_law_found"] ["_law_points"] (defScope sWt) := ⟨rfl, rfl, rfl, by decide +kernel, rfl, by decide +kernel, by decide +kernel⟩
theorem ok_wt {f : Addr} {fd : FuncData} (F : Fun K "_law_without_ties" "_law_without_ties" sWt f fd) (T : Bi mg) (FB : FnE P w K mg base "bound" ["net"] 5 spBd) (FI : FnE P w K mg base "_law_is" ["_law_found", "_law_due"] 5 spLi) : FnOk P w K mg base CX0 6 f fd ["_law_points"] spWt := by
  refine F.ok scWt (fun vs H Q E h => ?_) (fun cdv A outer s H vs Q E hr h => ?_)
  · obtain ⟨n, rfl, _⟩ := h
    rfl
  · obtain ⟨n, rfl, h1, q⟩ := h
    refine ⟨_, pss_cons (ps_set (i := 1) scWt.nd rfl (Or.inl rfl) (pe_fc FB hr (pa_c (pe_tupS (pa_c (pv 0) (pa_c (pe_tupS pa_nil) pa_nil))) pa_nil)))
      (pss_one (ps_ret (pe_and (pe_callB call_isinst rfl T.isi bIsi (pa_c (pv 1) (pa_c (pe_bltn (v := .ty "tuple") rfl T.tuple bTuple rfl) pa_nil)))
        (pe_and (pe_cmpR op_eq (pe_callB call_len_seq rfl T.len bLen (pa_c (pv 1) pa_nil)) pe_int (nomark _))
        (pe_and (pe_fc FI hr (pa_c (pe_ix ix_tup (pv 1) pe_int (fun _ _ => rfl)) (pa_c pe_int pa_nil))) (pe_one (pe_cmpR op_isN (pe_ix ix_tup (pv 1) pe_int (fun _ _ => rfl)) pe_non (nomark _)))))))), ?_⟩
    refine ⟨_, rfl, rfl, fun e H1 s1 he => ⟨rfl, fun p H2 s2 hp => ?_⟩⟩
    have s02 := Same.trans s1 s2
    refine ⟨p, n, e, [], [], rfl, ⟨hp, s2 _ _ he, rfl, (fun i t h => by cases h), Nat.zero_le _, by omega, (fun e he => by cases he)⟩, by omega, fun H3 t s3 ⟨M, hM, hB⟩ => ?_⟩
    have m0 := most_nn hM
    have hl0 : (([] : List (Nat × Nat)).length : Int) = 0 := rfl
    rcases hB with ⟨_, ht⟩ | ⟨hpos, _⟩
    · refine ⟨_, rfl, _, _, _, _, rfl, .tup ht, kit K "tuple" "tuple" true (by decide +kernel), _, rfl, iteT ?_⟩
      refine ⟨_, rfl, t, _, rfl, .inr (SqT.of ht), rfl, _, rfl, ?_⟩
      refine ite2 (fun _ => ?_) (fun z => absurd (decide_eq_true rfl) z)
      refine ⟨_, rfl, t, _, _, _, rfl, rfl, SqT.of ht, rfl, 0, 0, rfl, _, rfl, iteT ?_⟩
      exact ⟨_, rfl, t, _, _, _, rfl, rfl, SqT.of ht, rfl, rfl, q H3 (Same.trans s02 s3)⟩
    · omega
abbrev sRf : Stmt := top 26
abbrev nRf : List Str := ["_law_net_here", "_law_kept", "error"]
def spRf : Sp := fun vs H Q _ => ∃ (p : Addr) (n : Int) (v : V), vs = [.ref p] ∧ H p = some (.tup [.int n, v]) ∧ 9 < n ∧ ∀ H', Same H H' → Q (.bl true) H'
theorem scRf : FnScope nRf ["_law_net_here"] (defScope sRf) := ⟨rfl, rfl, rfl, by decide +kernel, rfl, by decide +kernel, by decide +kernel⟩
theorem ok_rf {f C te m1 m2 m3 fB : Addr} {fd fdB : FuncData} (F : Fun K "_law_refused" "_law_refused" sRf f fd) (T : Bi mg) (gC : mg "TooGreat" = some (.ref C)) (gte : mg "TintError" = some (.ref te)) (h1 : mg "NotPlain" = some (.ref m1)) (h2 : mg "NotTwoSided" = some (.ref m2)) (h3 : mg "TooFew" = some (.ref m3)) (hv : mg "ValueError" = none)
    (hkc : PySem.W.kitCls K (.ref C) (.ref te) = some true) (hbe : PySem.W.mroIn K te (.type "BaseException") = some true) (kC : PySem.W.kitOne K (.ref C) (.ref C) = some true) (km : PySem.W.kitAny K (.ref C) [.ref m1, .ref m2, .ref m3] = some false) (ve : PySem.W.kitOne K (.ref C) (.type "ValueError") = some true) (gt : RX.XGet K C) (hn : PySem.W.findIn K (.ref C) "most" = some none)
    (FB : FnOk P w K mg base (RX.CXe P w) 5 fB fdB ["net"] (spBdX C)) (gB : mg "bound" = some (.ref fB)) (kB : PySem.W.keepIn K (.ref fB) = true) (bB : L2.Binds K fdB ["net"] []) (FI : FnE P w K mg base "_law_is" ["_law_found", "_law_due"] 5 spLi) :
    FnOk P w K mg base CX0 6 f fd ["_law_net_here"] spRf := by
  refine F.ok scRf (fun vs H Q E h => ?_) (fun cdv A outer s H vs Q E hr h => ?_)
  · obtain ⟨p, n, v, rfl, _⟩ := h
    rfl
  · obtain ⟨p, n, v, rfl, hp, n9, q⟩ := h
    refine ⟨_, pss_cons (ps_set (i := 1) scRf.nd rfl (Or.inl rfl) pe_non)
      (pss_cons (RX.ps_try rfl rfl (fun pn E Ex ht => pss_one (ps_expr (RX.pe_callX FB hr rfl gB kB bB .nil ht (pa_c (pv 0) pa_nil))))
        (RX.ph_as (i := 2) rfl gte hbe scRf.nd rfl rfl (fun e => pss_one (ps_set (i := 1) scRf.nd rfl (Or.inl rfl) (pv 2))) RX.ph_nil))
      (pss_cons (ps_if (PW.pt (pw_or (pt_cmpR op_isN (pv 1) pe_non (nomark _)) (pw_or (pt_not (pt_val (pe_callB RX.call_isinstX rfl T.isi bIsi (pa_c (pv 1) (pa_c (pe_glob (v := .ref C) rfl gC rfl) pa_nil)))))
        (pw_or1 (pt_val (pe_callB RX.call_isinstXT rfl T.isi bIsi (pa_c (pv 1) (pa_c (pe_tupS (pa_c (pe_glob (v := .ref m1) rfl h1 rfl) (pa_c (pe_glob (v := .ref m2) rfl h2 rfl) (pa_c (pe_glob (v := .ref m3) rfl h3 rfl) pa_nil)))) pa_nil)))))))) (pss_one (ps_ret pe_bl)) pss_nil)
      (pss_one (ps_ret (pe_and (pe_callB RX.call_isinstX rfl T.isi bIsi (pa_c (pv 1) (pa_c (pe_bltn (v := .ty "ValueError") rfl hv rfl rfl) pa_nil))) (pe_one (pe_fc FI hr (pa_c (RX.pe_fldX (pv 1) rfl) (pa_c pe_int pa_nil))))))))), ?_⟩
    refine ⟨_, rfl, p, n, v, rfl, hp, n9, fun H1 dx s1 hdx => ?_⟩
    refine ⟨C, true, rfl, hkc, ?_⟩
    rw [if_pos rfl]
    intro e he
    have hed : e ≠ dx := fun z => by rw [z, upd_same] at he; cases he
    have s1d : Same H1 (upd H1 dx (.xd [("most", .int 9)])) := same_add hdx
    have s1e : Same (upd H1 dx (.xd [("most", .int 9)])) (upd (upd H1 dx (.xd [("most", .int 9)])) e (RX.XO C (some dx) e)) := same_add he
    have gd : (upd (upd H1 dx (.xd [("most", .int 9)])) e (RX.XO C (some dx) e)) dx = some (.xd [("most", .int 9)]) := by rw [upd_ne (Ne.symm hed), upd_same]
    have ge : (upd (upd H1 dx (.xd [("most", .int 9)])) e (RX.XO C (some dx) e)) e = some (RX.XO C (some dx) e) := upd_same
    have s0J := Same.trans s1 (Same.trans s1d s1e)
    generalize upd (upd H1 dx (.xd [("most", .int 9)])) e (RX.XO C (some dx) e) = J at s0J gd ge
    have hdd : ∀ {G : Hp}, Same J G → ∀ d', some dx = some d' → ∃ u, G d' = some u := fun {G} sG d' hd' => by
      cases hd'
      exact ⟨_, sG _ _ gd⟩
    refine ⟨_, rfl, ?_⟩
    refine ⟨_, rfl, rfl, _, rfl, ?_⟩
    refine ite2 (fun z => absurd (of_decide_eq_true z) (fun y => by cases y)) (fun _ => ?_)
    refine ⟨_, rfl, e, C, some dx, _, _, true, rfl, ge, hdd (Same.refl _), gt, rfl, kC, _, rfl, iteF ?_⟩
    refine ⟨_, rfl, rfl, fun tp J2 s2 htp => ?_⟩
    refine ⟨e, C, some dx, tp, [m1, m2, m3], false, rfl, s2 _ _ ge, hdd s2, gt, htp, km, _, rfl, iteF ?_⟩
    refine ⟨_, rfl, e, C, some dx, _, _, true, rfl, s2 _ _ ge, hdd s2, gt, rfl, ve, _, rfl, iteT ?_⟩
    exact ⟨_, rfl, e, C, dx, _, _, rfl, s2 _ _ ge, s2 _ _ gd, gt, hn, rfl, (fun n z => by cases z), 9, 9, rfl, q J2 (Same.trans s0J s2)⟩
end
end My
set_option Elab.async false
set_option linter.all false
set_option maxRecDepth 100000
set_option maxHeartbeats 4000000
namespace L2
open PySem PySem.Spec PyProof.Rows
structure FunC (K : PySem.W.Frag) (x qual : Str) (st : Stmt) (f : Addr) (fd : FuncData) (c : Addr) : Prop where
  ex : ∃ (oc : Value) (od : Option Addr) (kV doc pm : Value) (an : Option Addr) (ct : Value) (osl : Array (Option Value)),
    fd = PySem.W.fnOf x qual (defArgs st) (defBody st) (defScope st) .none kV doc pm an (.ref c) ct ∧ K.lookup f = some ⟨oc, od, .func fd, osl⟩ ∧ PySem.W.codeIn K (.ref c) qual = true
section
variable {P : Program} {w : World} {K : PySem.W.Frag} {mg : Str → Option Value} {base : Heap}
theorem FunC.ok {x qual : Str} {st : Stmt} {f c : Addr} {fd : FuncData} {N ps : List Str} {k : Nat} {sp : Sp} (F : FunC K x qual st f fd c) (S : FnScope N ps (defScope st)) (len : ∀ vs H Q E, sp vs H Q E → vs.length = ps.length)
    (hbody : ∀ (A : Around) (outer : List Env) (s : Shared) (H : Hp) (vs : List V) (Q : VK) (E : XK), Room k (A.deeper (envOfC qual (defScope st) s.heap.objs.size f (.ref c))) → sp vs H Q E →
      ∃ t, PSs (cxOf CX0 P w K mg base N qual (defScope st) f (.ref c) A outer s H E).nox (defBody st) t ∧ t { nx := fun _ H' => Q .non H', rt := Q } (start N vs) H) : FnOk P w K mg base CX0 (k + 1) f fd ps sp := by
  obtain ⟨oc, od, kV, doc, pm, an, ct, osl, rfl, lk, hcd⟩ := F.ex
  refine fn_of lk hcd S len fun A outer s H vs Q E hr hsp => ?_
  obtain ⟨t, h, q⟩ := hbody A outer s H vs Q E hr hsp
  exact ⟨t, h.nox, q⟩
end
theorem Gr.none {P : Addr} {pos : Pos} {qual : Str} {H H' : Hp} (g : Gr P pos qual H H') {d : Addr} (h : H' d = Option.none) : H d = Option.none := by
  cases q : H d with
  | none => rfl
  | some o =>
    by_cases hd : d = P
    · subst hd
      rcases g.tab with t | ⟨c', t, _⟩
      · rw [h] at t; cases t
      · rw [h] at t; cases t
    · rw [g.keep d o q hd] at h; cases h
theorem Gr.new {P : Addr} {pos : Pos} {qual : Str} {H H' : Hp} (g : Gr P pos qual H H') {d : Addr} {o : HO} (h : H' d = Option.none) : Gr P pos qual H (upd H' d o) := g.same (same_new h)
theorem Gr.lst {P : Addr} {pos : Pos} {qual : Str} {H H' : Hp} (g : Gr P pos qual H H') {d : Addr} {xs ys : List V} (h : H' d = some (.lst xs)) (hn : H d = Option.none) : Gr P pos qual H (upd H' d (.lst ys)) := by
  refine ⟨fun b o e n => by rw [upd_ne (ne_of_none e hn)]; exact g.keep b o e n, ?_⟩
  rcases g.tab with t | ⟨c', t, u⟩
  · exact .inl (by rw [upd_ne (ne_of t h fun z => nomatch z)]; exact t)
  · exact .inr ⟨c', by rw [upd_ne (ne_of t h fun z => nomatch z)]; exact t, by rw [upd_ne (ne_of u h fun z => nomatch z)]; exact u⟩
def Tk (H H' : Hp) : Prop := ∀ q xs, H q = some (.tup xs) → H' q = some (.tup xs)
theorem Tk.trans {H H1 H2 : Hp} (a : Tk H H1) (b : Tk H1 H2) : Tk H H2 := fun q xs e => b q xs (a q xs e)
theorem Same.tk {H H' : Hp} (s : Same H H') : Tk H H' := fun q xs e => s q _ e
theorem Gr.tk {P : Addr} {pos : Pos} {qual : Str} {H H' : Hp} (g : Gr P pos qual H H') (t : TabI P pos qual H) : Tk H H' := fun q xs e => g.keep q _ e fun z => by
  subst z
  rcases t with t | ⟨c', t, _⟩
  · rw [e] at t; cases t
  · rw [e] at t; cases t
def kwLam : Stmt → Expr
  | .Assign _ (.Call _ _ [⟨_, e, _⟩] _) _ => e
  | _ => .Constant .none 0 ⟨0, 0, 0, 0⟩
def lamScope : Expr → Scope
  | .Lambda _ _ s _ => s
  | _ => { kind := .function, names := [], isGenerator := false, isCoroutine := false }
def lamArgs : Expr → Arguments
  | .Lambda a _ _ _ => a
  | _ => { posonlyargs := [], args := [], vararg := none, kwonlyargs := [], kw_defaults := [], kwarg := none, defaults := [] }
end L2
set_option Elab.async false
set_option linter.all false
set_option maxRecDepth 100000
namespace L2
open PySem PySem.Spec PyProof.Rows
theorem cf_app : ∀ (names : List (Str × NameKind)) (n : Nat) (acc : List (Str × Addr)), cellsFrom n names acc = cellsFrom n names [] ++ acc
  | [], _, _ => rfl
  | (x, k) :: r, n, acc => by
    unfold cellsFrom
    split
    · rw [cf_app r (n + 1) ((x, n) :: acc), cf_app r (n + 1) [(x, n)], List.append_assoc]
      rfl
    · exact cf_app r n acc
theorem cf_mem : ∀ {names : List (Str × NameKind)} {n : Nat} {x : Str} {c : Addr}, (x, c) ∈ cellsFrom n names [] → (x, NameKind.cell) ∈ names ∧ n ≤ c
  | [], _, _, _, h => by cases h
  | (y, k) :: r, n, x, c, h => by
    unfold cellsFrom at h
    split at h
    · rename_i hk
      rw [cf_app] at h
      rcases List.mem_append.mp h with z | z
      · have := cf_mem z
        exact ⟨.tail _ this.1, by omega⟩
      · cases List.mem_singleton.mp z
        rw [show k = NameKind.cell from by simpa using hk]
        exact ⟨.head _, Nat.le_refl _⟩
    · exact ⟨.tail _ (cf_mem h).1, (cf_mem h).2⟩
theorem lookup_app {α : Type} : ∀ {l m : List (Str × α)} {x : Str} {c : α}, (l ++ m).lookup x = some c → l.lookup x = some c ∨ (l.lookup x = none ∧ m.lookup x = some c)
  | [], _, _, _, h => .inr ⟨rfl, h⟩
  | (y, d) :: r, m, x, c, h => by
    rw [List.cons_append] at h
    cases hx : x == y with
    | true => simp only [List.lookup_cons, hx] at h ⊢; exact .inl h
    | false => simp only [List.lookup_cons, hx] at h ⊢; exact lookup_app h
theorem lookup_app_r {α : Type} : ∀ {l m : List (Str × α)} {x : Str} {c : α}, l.lookup x = none → m.lookup x = some c → (l ++ m).lookup x = some c
  | [], _, _, _, _, h => h
  | (y, d) :: r, m, x, c, hn, h => by
    rw [List.cons_append]
    cases hx : x == y with
    | true => simp only [List.lookup_cons, hx] at hn; cases hn
    | false => simp only [List.lookup_cons, hx] at hn ⊢; exact lookup_app_r hn h
theorem relabel_back2 {env : Env} : ∀ {names : List (Str × NameKind)} {x : Str},
    ((names.map fun (n, k) => if (k == NameKind.free && env.scope.kind == .function && env.kindOf n == some .cell) then (n, NameKind.cell) else (n, k)).lookup x = some .cell ∨
    (names.map fun (n, k) => if (k == NameKind.free && env.scope.kind == .function && env.kindOf n == some .cell) then (n, NameKind.cell) else (n, k)).lookup x = some .free) → names.lookup x = some .free ∨ names.lookup x = some .cell
  | [], _, h => by simp at h
  | (n, k) :: r, x, h => by
    have ih := @relabel_back2 env r x
    simp only [List.map_cons] at h
    cases hx : x == n with
    | true =>
      by_cases hc : (k == NameKind.free && env.scope.kind == .function && env.kindOf n == some .cell) = true
      · simp only [Bool.and_eq_true, beq_iff_eq] at hc
        simp only [List.lookup_cons, hx]
        rw [hc.1.1]
        exact .inl rfl
      · rw [if_neg hc] at h
        simp only [List.lookup_cons, hx] at h ⊢
        exact h.elim .inr .inl
    | false =>
      simp only [List.lookup_cons, hx]
      by_cases hc : (k == NameKind.free && env.scope.kind == .function && env.kindOf n == some .cell) = true
      · rw [if_pos hc] at h; simp only [List.lookup_cons, hx] at h; exact ih h
      · rw [if_neg hc] at h; simp only [List.lookup_cons, hx] at h; exact ih h
theorem newEnv_cells {M : Model} {A : Around} {E : Value → Shared → Prop} {s : Shared} {scope : Scope} {globals : Addr} {cl : List (Str × Addr)} {qual : Str} {env : Env} {Q : Env → Shared → Prop}
    (hQ : ∀ h' : Heap, h'.Ns s.heap.objs.size (fun _ => none) → (∀ b o, s.heap.get? b = some o → h'.get? b = some o) → CellsOk h' (s.heap.objs.size + 1) (cellsFrom (s.heap.objs.size + 1) scope.names []) →
      Q { scope, locals := s.heap.objs.size, globals, cells := cellsFrom (s.heap.objs.size + 1) scope.names cl, qual, func := none, code := env.code, frame := env.frame, builtins := env.builtins } { s with heap := h' }) :
    wpAny M A (newFunctionEnv scope globals cl [] qual none .none (some env)) Q E s := by
  simp only [newFunctionEnv, Option.isSome_some, if_true]
  refine wpAny_bind (wpAny_alloc ?_)
  refine wpAny_bind (wpAny_layCells _ (fun name kind cells => by cases hkc : kind == NameKind.cell <;> simp [hkc]) _ _ _ _ ?_)
  have ok := cellsFrom_ok scope.names (s.heap.push { cls := .type "dict", data := .dict #[] }) (s.heap.objs.size + 1) [] ⟨fun _ _ hm => (nomatch hm), List.Pairwise.nil⟩ (by rw [Heap.size_push]; exact Nat.le_refl _)
  rw [Heap.size_push] at ok
  rw [show ({ s with heap := s.heap.push { cls := .type "dict", data := .dict #[] } } : Shared).heap.objs.size = s.heap.objs.size + 1 from Heap.size_push ..]
  rw [List.forIn_nil]
  exact wpAny_bind (wpAny_pure (wpAny_pure (hQ _ ((Heap.Ns.new s.heap (.type "dict")).keeps (pushCells_keeps _ _)) (fun b o e => pushCells_keeps _ _ b o (Heap.get?_push_of_some _ e)) ok)))
def cxBlkC (X : Cx) (scope : Scope) (cl : List (Str × Addr)) (C : Addr) (N : List Str) (fp : List Addr) (s : Shared) (H : Hp) : Cx :=
  { X with N := N, s₀ := s, H₀ := H, env := compEnvC scope (cellsFrom (C + 1) scope.names cl) C X.env, outer := X.stack, ex := fp, fn := fun x => decide (scope.names.lookup x = some .cell), pn := [], xe := fun _ _ => False }
structure BlkC (X : Cx) (scope : Scope) (cl : List (Str × Addr)) (N : List Str) (bs : List (Option Nat)) : Prop where
  clos : closureFor scope X.env = pure cl
  kind : scope.kind = .function
  cell : ∀ y ∈ scope.names, y.2 = .cell → scope.names.lookup y.1 = some .cell
  names : ∀ y ∈ scope.names, y.2 = .local → scope.names.lookup y.1 = some .local
  cl1 : ∀ p ∈ cl, X.env.cells.lookup p.1 = some p.2
  cl2 : ∀ y ∈ scope.names, y.2 = .free → (cl.lookup y.1).isSome = true
  bs : BsOk X.N X.env.scope.names scope.names N bs
section
variable {X : Cx} {scope : Scope} {cl : List (Str × Addr)} {N : List Str} {bs : List (Option Nat)} {pins : List (Addr × Obj)} {σ : St} {H : Hp} {s : Shared} {fp : List Addr} {C : Addr}
theorem BlkC.c1 (B : BlkC X scope cl N bs) {x : Str} {c : Addr} (h : cl.lookup x = some c) : X.env.cells.lookup x = some c := B.cl1 (x, c) (PySem.mem_of_lookup h)
theorem BlkC.either (B : BlkC X scope cl N bs) {x : Str} {c : Addr} (h : (cellsFrom (C + 1) scope.names cl).lookup x = some c) : (C < c ∧ (x, c) ∈ cellsFrom (C + 1) scope.names []) ∨ X.env.cells.lookup x = some c := by
  rw [cf_app] at h
  rcases lookup_app h with z | ⟨_, z⟩
  · have m := PySem.mem_of_lookup z
    exact .inl ⟨(cf_mem m).2, m⟩
  · exact .inr (B.c1 z)
theorem BlkC.fr (B : BlkC X scope cl N bs) {x : Str} {c : Addr} (hx : scope.names.lookup x = some .free) (h : cl.lookup x = some c) : (cellsFrom (C + 1) scope.names cl).lookup x = some c := by
  rw [cf_app]
  refine lookup_app_r ?_ h
  cases q : (cellsFrom (C + 1) scope.names []).lookup x with
  | none => rfl
  | some c' =>
    have := B.cell _ (cf_mem (PySem.mem_of_lookup q)).1 rfl
    rw [hx] at this
    cases this
theorem BlkC.c2 (B : BlkC X scope cl N bs) {x : Str} (h : (compEnvC scope (cellsFrom (C + 1) scope.names cl) C X.env).kindOf x = some .cell ∨ (compEnvC scope (cellsFrom (C + 1) scope.names cl) C X.env).kindOf x = some .free) : ∃ c, (cellsFrom (C + 1) scope.names cl).lookup x = some c := by
  rcases relabel_back2 (env := X.env) h with z | z
  · obtain ⟨c, e⟩ := Option.isSome_iff_exists.mp (B.cl2 (x, .free) (PySem.mem_of_lookup z) rfl)
    exact ⟨c, B.fr z e⟩
  · exact Option.isSome_iff_exists.mp (PySem.W.cellsFrom_some scope.names (C + 1) cl (.inl z))
theorem BlkC.ok (B : BlkC X scope cl N bs) (I : Inv X pins σ H s) (hf : ∀ b ∈ fp, FpOk X pins H b) (ho : ∀ b ∈ fp, ∃ o, s.heap.get? b = some o ∧ ∀ v, o.data ≠ .cell v) (hC : s.heap.objs.size ≤ C) (ap : (cellsFrom (C + 1) scope.names []).Pairwise fun x y => x.2 ≠ y.2) : (cxBlkC X scope cl C N fp s H).Ok := by
  have lo : ∀ x c, X.env.cells.lookup x = some c → c < s.heap.objs.size := fun x c e => by
    obtain ⟨v, o, ho, _⟩ := I.cell x c e
    exact Heap.lt_size ho
  refine ⟨I.ok.mod, B.kind, I.ok.glob, I.ok.blt, hC, fun x y c h1 h2 => ?_, fun x h => B.c2 h, fun x c h h2 => ?_, I.ok.hd, I.ok.frames, .inl rfl, fun b hb => ?_, I.bs, Nat.le_trans I.ok.bsz I.sz, fun b o e hb => ?_, fun b hb hb' => ?_, I.stack, I.stkFree⟩
  · rcases B.either h1 with ⟨l1, m1⟩ | e1 <;> rcases B.either h2 with ⟨l2, m2⟩ | e2
    · exact name_of_addr ap m1 m2
    · exact absurd (Nat.lt_of_lt_of_le (lo _ _ e2) (Nat.le_trans hC (Nat.le_of_lt l1))) (Nat.lt_irrefl _)
    · exact absurd (Nat.lt_of_lt_of_le (lo _ _ e1) (Nat.le_trans hC (Nat.le_of_lt l2))) (Nat.lt_irrefl _)
    · exact I.ok.inj x y c e1 e2
  · have hx : scope.names.lookup x = some .cell := of_decide_eq_true h
    have h2' : (cellsFrom (C + 1) scope.names cl).lookup x = some c := h2
    rw [cf_app] at h2'
    obtain ⟨c', e⟩ := Option.isSome_iff_exists.mp (PySem.W.cellsFrom_some scope.names (C + 1) [] (.inl hx))
    rcases lookup_app h2' with z | ⟨z, _⟩
    · have := (cf_mem (PySem.mem_of_lookup z)).2
      show s.heap.objs.size ≤ c
      omega
    · rw [z] at e; cases e
  · obtain ⟨o, e, _⟩ := ho b hb
    obtain ⟨_, _, _, _, f4, _⟩ := hf b hb
    have hlt := Heap.lt_size e
    refine ⟨Nat.ne_of_lt (Nat.lt_of_lt_of_le hlt hC), fun x c h => ?_⟩
    rcases B.either h with ⟨l, _⟩ | e'
    · exact fun z => absurd (Nat.lt_of_lt_of_le hlt (Nat.le_trans hC (Nat.le_of_lt (z ▸ l)))) (Nat.lt_irrefl _)
    · exact f4 x c e'
  · obtain ⟨_, _, _, f3, _⟩ := hf b hb
    rcases f3 with z | z
    · exact I.ok.noex b o e z
    · exact absurd (Nat.lt_of_lt_of_le (Heap.lt_size e) (Nat.le_trans I.ok.bsz z)) (Nat.lt_irrefl _)
  · obtain ⟨_, f1, f2, _⟩ := hf b hb
    rcases List.mem_cons.mp (I.stkSub b hb') with z | z
    · exact f1 z
    · exact f2 z
theorem BlkC.inv (B : BlkC X scope cl N bs) (I : Inv X pins σ H s) (hf : ∀ b ∈ fp, FpOk X pins H b) (ho : ∀ b ∈ fp, ∃ o, s.heap.get? b = some o ∧ ∀ v, o.data ≠ .cell v) (hC : s.heap.objs.size ≤ C) {h' : Heap}
    (hk : ∀ b o, s.heap.get? b = some o → h'.get? b = some o) (cs : CellsOk h' (C + 1) (cellsFrom (C + 1) scope.names [])) {m : Str → Option Value} (hn : h'.Ns C m) {D : Addr} {oD : Obj} (hD : h'.get? D = some oD) (hD1 : s.heap.objs.size ≤ D) (hDC : D ≠ C) (hDd : ∀ v, oD.data ≠ .cell v) :
    Inv (cxBlkC X scope cl C N fp s H) [(D, oD)] (bst bs σ) H { s with heap := h' } := by
  have ok : (cxBlkC X scope cl C N fp s H).Ok := B.ok I hf ho hC cs.apart
  refine ⟨ok, rfl, I.bare, Un.kept hk, ⟨m, hn, fun i x v e1 e2 e3 => ?_⟩, fun x c h => ?_, I.hok.fresh hC, fun x c h => ?_, fun p hp => ?_, I.hok.kept hk, ?_⟩
  · have e2' : (bst bs σ)[i]? = some (some v) := e2
    unfold bst at e2'
    rw [List.getElem?_map] at e2'
    cases q : bs[i]? with
    | none => rw [q] at e2'; cases e2'
    | some o =>
      rw [q] at e2'
      cases o with
      | none => cases e2'
      | some j =>
        obtain ⟨y, y1, y2, y3, y4⟩ := B.bs.get q
        have e1' : N[i]? = some x := e1
        rw [e1'] at y1
        cases y1
        have e4 : σ[j]? = some (some v) := by
          have z : (σ[j]?).join = some v := Option.some.inj e2'
          cases w : σ[j]? with
          | none => rw [w] at z; cases z
          | some o => rw [w] at z; rw [show o = some v from z]
        obtain ⟨mx, hmx, lx⟩ := I.loc
        obtain ⟨u, r, l⟩ := lx j x v y2 e4 (.inr (.inl y3))
        refine ⟨u, r, .inr ⟨relabel_free (env := X.env) y4, ?_⟩⟩
        rcases l with ⟨l1, _⟩ | ⟨_, c, l2, l3⟩
        · have l1' : X.env.scope.names.lookup x = some .local := l1
          rw [y3] at l1'
          cases l1'
        · obtain ⟨c', h'⟩ := Option.isSome_iff_exists.mp (B.cl2 (x, .free) (PySem.mem_of_lookup y4) rfl)
          have h2 := B.c1 h'
          rw [l2] at h2
          cases h2
          obtain ⟨oc, hoc, hd⟩ := l3
          exact ⟨c, B.fr y4 h', oc, hk _ _ hoc, hd⟩
  · rcases B.either h with ⟨_, mm⟩ | e
    · exact ⟨none, (cs.empty x c mm).1⟩
    · obtain ⟨v, oc, hoc, hd⟩ := I.cell x c e
      exact ⟨v, oc, hk _ _ hoc, hd⟩
  · rcases B.either h with ⟨l, _⟩ | e
    · exact I.hok.fresh (Nat.le_trans hC (Nat.le_of_lt l))
    · exact I.freeC x c e
  · have e : p = (D, oD) := by simpa [cxBlkC] using hp
    subst e
    refine ⟨hD, I.hok.fresh hD1, hDC, fun z => ?_, hDd⟩
    have z' : D ∈ frs X.stack := z
    rcases List.mem_cons.mp (I.stkSub D z') with q | q
    · exact Nat.lt_irrefl _ (Nat.lt_of_lt_of_le I.lt (by rw [← q]; exact hD1))
    · exact I.nofs hD1 q
  · show (bst bs σ).length = N.length
    unfold bst
    rw [List.length_map]
    exact B.bs.len
end
theorem pe_lcC {X : Cx} {scope : Scope} {cl : List (Str × Addr)} {N : List Str} {bs : List (Option Nat)} {tg iter elt : Expr} {ifs : List Expr} {pos : Pos} {wi : TI} {g : TG} {tt : TT} {te : TE} (B : BlkC X scope cl N bs) (hc : X.calm = true)
    (hi : PI X tg iter wi) (hg : ∀ C fp s H, PG (cxBlkC X scope cl C N fp s H) tg g) (ht : ∀ C fp s H, PTs (cxBlkC X scope cl C N fp s H) ifs tt) (he : ∀ C fp s H, PE (cxBlkC X scope cl C N fp s H) elt te)
    (hs : ∀ x, foldedSetIterable iter X.env x = pure x := by intro _; rfl) :
    PE X (.ListComp elt [⟨tg, iter, ifs, 0⟩] scope pos) (tLC bs wi g tt te) := by
  intro pins s σ H Q I h
  rw [eval_ListComp]
  refine wpAny_comprehension_free (use := none) rfl hs B.clos B.kind B.names (thn (hi pins s σ H _ I h) fun v s1 h1 => thn h1 fun itv s2 h2 => ?_)
  obtain ⟨it, fp, tn, J, H2, rfl, I2, T, st2, f2, W, ⟨m0, w0⟩, turn⟩ := h2
  refine wpAny_newObj_type (newEnv_cells fun h₁ hns₁ hkp₁ hcs₁ => ?_)
  dsimp only at hns₁ hkp₁ hcs₁ ⊢
  generalize hG : s2.heap.push { cls := .type "list", dict := none, data := .seq ([] : List Value).toArray } = G at hns₁ hkp₁ hcs₁ ⊢
  have hC : G.objs.size = s2.heap.objs.size + 1 := by rw [← hG, Heap.size_push]
  have hDC : s2.heap.objs.size ≠ G.objs.size := by rw [hC]; exact Nat.ne_of_lt (Nat.lt_succ_self _)
  have hCle : s2.heap.objs.size ≤ G.objs.size := by rw [hC]; exact Nat.le_succ _
  have old : ∀ b o, s2.heap.get? b = some o → h₁.get? b = some o := fun b o e => hkp₁ b o (hG ▸ Heap.get?_push_of_some _ e)
  have hacc : h₁.get? s2.heap.objs.size = some { cls := .type "list", data := .seq ([] : List Value).toArray 0 } := hkp₁ _ _ (hG ▸ Heap.get?_push_size _ rfl)
  have stat : ∀ {D : Addr} {o : Obj} {H' : Hp}, s2.heap.objs.size ≤ D → (∀ b ∈ fp, H' b = none) → ∀ b ∈ fp, FpOk (cxBlkC X scope cl G.objs.size N fp s2 H2) [(D, o)] H' b := fun {D o H'} hD hn b hb => by
    obtain ⟨ob, eb, _⟩ := T.obj _ _ st2 b hb
    obtain ⟨_, f1, f3, f4, f5, _⟩ := f2 b hb
    have ok := B.ok I2 f2 (T.obj _ _ st2) (C := G.objs.size) hCle hcs₁.apart
    refine ⟨hn b hb, (ok.exf b hb).1, ok.exfs b hb, .inl hb, (ok.exf b hb).2, fun p hp => ?_⟩
    have e : p = (D, o) := by simpa [cxBlkC] using hp
    subst e
    exact Nat.ne_of_gt (Nat.lt_of_lt_of_le (Heap.lt_size eb) hD)
  have loop : ∀ s₃ : Shared, s₃ = { s2 with heap := h₁ } →
      codeAny (model X.prog X.w) X.A (.compLoop (.ListComp elt [⟨tg, iter, ifs, 0⟩] scope pos) 0 (.ref it) (.ref s2.heap.objs.size) (compEnvC scope (cellsFrom (G.objs.size + 1) scope.names cl) G.objs.size X.env))
        (compPost (model X.prog X.w) X.A X.xe none (EP X pins σ Q) (.ref s2.heap.objs.size) G.objs.size) s₃ := by
    rintro s₃ rfl
    refine codeAny_compLoop_go (fun n s' => ∃ i ys its k σ' H', Inv (cxBlkC X scope cl G.objs.size N fp s2 H2) [(s2.heap.objs.size, { cls := .type "list", data := .seq (List.toArray its) k })] σ' H' s' ∧ Vals ys its ∧ tn i s'.heap ∧ (∀ b ∈ fp, H' b = none) ∧ W i n ys σ' H') ?_ m0
      ⟨0, [], [], 0, bst bs σ, H2, B.inv I2 f2 (T.obj _ _ st2) hCle old hcs₁ hns₁ hacc (Nat.le_refl _) hDC (fun v z => nomatch z), .nil, T.keep _ _ _ st2 fun b _ o e => old b o e, fun b hb => (f2 b hb).1, w0⟩
    rintro n s3 ⟨i, ys, its, k, σ3, H3, I3, rv, st3, fr3, w3⟩
    have pD := I3.pin _ (List.mem_append_right _ (.head _))
    rcases turn i n ys σ3 H3 w3 with ⟨stop, hz, qn⟩ | ⟨go, hz, NN, hNN, step⟩
    · refine thn (T.done (cxBlkC X scope cl G.objs.size N fp s2 H2) rfl rfl rfl hc i _ s3 σ3 H3 (fun _ _ => False) I3 (stat (Nat.le_refl _) fr3) st3 stop) fun r s4 ⟨hr, I4⟩ => ?_
      subst hr
      have pD4 := I4.pin _ (List.mem_append_right _ (.head _))
      obtain ⟨m4, hn4, _⟩ := I4.loc
      refine ⟨m4, hn4, fun h5 sb5 => ?_⟩
      have hD5 : h5.get? s2.heap.objs.size = some { cls := .type "list", data := .seq (List.toArray its) k } := sb5.extBut _ _ hDC pD4.1
      have k5 : ∀ b o, b ≠ G.objs.size → s4.heap.get? b = some o → h5.get? b = some o := fun b o hb e => sb5.extBut b o hb e
      have hC4 : H3 G.objs.size = none := I4.free
      have hok4 : HOk X.prog X.w H3 s4.heap := I4.hok
      have hok5 : HOk X.prog X.w (upd H3 s2.heap.objs.size (.lst ys)) h5 := fun b u e => by
        by_cases hb : b = s2.heap.objs.size
        · subst hb
          rw [upd_same] at e
          cases e
          exact ⟨hz, its, k, rv, hD5⟩
        · rw [upd_ne hb] at e
          have nC : ∀ c u', H3 c = some u' → c ≠ G.objs.size := fun c u' q z => by rw [z, hC4] at q; cases q
          have nD : ∀ c u', H3 c = some u' → c ≠ s2.heap.objs.size := fun c u' q z => by rw [z, pD4.2.1] at q; cases q
          refine (hok4 b u e).stay (fun c v hc' q => k5 c v ?_ q) (fun c q => by rw [upd_ne (nD c _ q)]; exact q) fun c xs q => by rw [upd_ne (nD c _ q)]; exact q
          rcases hc' with z | z
          · rw [z]; exact nC b u e
          · exact nC c _ z
      have un4 : Un (frs X.stack) fp H2 H3 s2.heap s4.heap := I4.base
      have neC : ∀ b o, s2.heap.get? b = some o → b ≠ G.objs.size := fun b o e => Nat.ne_of_lt (Nat.lt_of_lt_of_le (Heap.lt_size e) hCle)
      have neD : ∀ b o, s2.heap.get? b = some o → b ≠ s2.heap.objs.size := fun b o e => Nat.ne_of_lt (Heap.lt_size e)
      have un5 : Un (frs X.stack) fp H2 (upd H3 s2.heap.objs.size (.lst ys)) s2.heap h5 := {
        keep := fun b o e n hb hx => k5 b o (neC b o e) (un4.keep b o e n hb hx)
        slot := fun b o e n hb hx => let ⟨sl, q⟩ := un4.slot b o e n hb hx; ⟨sl, k5 b _ (neC b o e) q⟩
        free := fun b o e n hx => by rw [upd_ne (neD b o e)]; exact un4.free b o e n hx
        there := fun b o e hx => let ⟨o', q⟩ := un4.there b o e hx; ⟨o', k5 b _ (neC b o e) q⟩
        tups := fun b xs e => by rw [upd_ne (ne_of_none e (I2.hok.fresh (Nat.le_refl _)))]; exact un4.tups b xs e
        frzs := fun b o u e => by rw [upd_ne (ne_of_none e (I2.hok.fresh (Nat.le_refl _)))]; exact un4.frzs b o u e
        tbls := fun b ps e => by rw [upd_ne (ne_of_none e (I2.hok.fresh (Nat.le_refl _)))]; exact un4.tbls b ps e }
      refine ⟨.ref s2.heap.objs.size, _, I2.call' (s' := { s4 with heap := h5 }) ((show s4.os = s2.os from I4.os)) un5 hok5 I4.bare (fun b hb => ?_), rfl, qn _ pD4.2.1⟩
      obtain ⟨_, f1, f3, f4, f5, f6⟩ := f2 b hb
      exact ⟨f4, f1, f5, f6⟩
    · refine thn (T.item (cxBlkC X scope cl G.objs.size N fp s2 H2) rfl rfl rfl hc i _ s3 σ3 H3 (fun _ _ => False) I3 (stat (Nat.le_refl _) fr3) st3 go) fun r s4 ⟨u, hr, h4⟩ => ?_
      subst hr
      refine thn h4 fun _ s5 ⟨x, H5, I5, r5, y5, st5, fr5⟩ => ?_
      have I5' := I5.pinned (stat (Nat.le_refl _) fr5) (T.obj _ _ st5)
      refine thn (hg _ _ _ _ _ s5 σ3 H5 x u _ I5' r5 (step x H5 y5)) fun _ s6 ⟨σ6, H6, I6, q6⟩ => ?_
      refine thn (ht _ _ _ _ _ s6 σ6 H6 _ I6 q6) fun ok s7 ⟨H7, I7, q7⟩ => ?_
      have back : ∀ {σ8 : St} {H8 : Hp} {s8 : Shared} {pl : List (Addr × Obj)}, Inv (cxBlkC X scope cl G.objs.size N fp s2 H2) (pl ++ pinsAt fp s5.heap) σ8 H8 s8 → tn (i + 1) s8.heap ∧ ∀ b ∈ fp, H8 b = none := fun {σ8 H8 s8 pl} I8 =>
        ⟨T.keep _ _ _ st5 fun b hb o e => (I8.pin (b, o) (List.mem_append_right _ (List.mem_append_right _ (mem_pinsAt hb e)))).1, fun b hb => by
          obtain ⟨o, e, d⟩ := T.obj _ _ st5 b hb
          exact (I8.pin (b, o) (List.mem_append_right _ (List.mem_append_right _ (mem_pinsAt hb e)))).2.1⟩
      cases ok with
      | false =>
        rw [if_neg Bool.false_ne_true] at q7 ⊢
        obtain ⟨m', hm, w7⟩ := hNN _ _ _ q7
        exact ⟨m', hm, i + 1, ys, its, k, σ6, H7, I7.unpinned, rv, (back I7).1, (back I7).2, w7⟩
      | true =>
        rw [if_pos rfl] at q7 ⊢
        refine thn (he _ _ _ _ _ s7 σ6 H7 _ I7 q7) fun y s8 ⟨v8, H8, I8, r8, q8⟩ => ?_
        obtain ⟨m', hm, w8⟩ := hNN _ _ _ q8
        have pD8 := I8.pin _ (List.mem_append_right _ (List.mem_append_left _ (.head _)))
        have hl := rv.length
        refine wpAny_list_append_plain ⟨k, pD8.1⟩ (fun h9 pl9 sb9 => ?_) (by rw [List.size_toArray]; omega)
        obtain ⟨k9, e9⟩ := pl9
        have e9' : h9.get? s2.heap.objs.size = some { cls := .type "list", data := .seq (List.toArray (its ++ [y])) k9 } := by rw [e9]; simp
        have I8' : Inv (cxBlkC X scope cl G.objs.size N fp s2 H2) (pinsAt fp s5.heap) σ6 H8 s8 := I8.pins_of fun p hp => I8.pin p (List.mem_append_right _ (List.mem_append_right _ hp))
        have I9 : Inv (cxBlkC X scope cl G.objs.size N fp s2 H2) (pinsAt fp s5.heap) σ6 H8 { s8 with heap := h9 } := I8'.turned (it := s2.heap.objs.size) (t' := s8.toks) (fun b o hb e => sb9.extBut b o hb e) pD8.2.1 pD8.2.2.1 (.inr (Nat.le_refl _))
          (fun x c e z => by
            obtain ⟨vc, oc, hoc, hd⟩ := I8.cell x c e
            rw [z, pD8.1] at hoc
            cases hoc
            cases hd)
          fun p hp z => by
            have hp' : p ∈ pinsAt fp s5.heap := by simpa [cxBlkC] using hp
            obtain ⟨q1, q2⟩ := of_pinsAt hp'
            obtain ⟨ob, eb, _⟩ := T.obj _ _ st2 p.1 q1
            exact Nat.lt_irrefl _ (by have := Heap.lt_size eb; rw [z] at this; exact this)
        have hk9 : ∀ b ∈ fp, ∀ o, s8.heap.get? b = some o → h9.get? b = some o := fun b hb o e => sb9.extBut b o (fun z => by
          obtain ⟨ob, eb, _⟩ := T.obj _ _ st2 b hb
          exact Nat.lt_irrefl _ (by have := Heap.lt_size eb; rw [z] at this; exact this)) e
        refine ⟨m', hm, i + 1, ys ++ [v8], its ++ [y], k9, σ6, H8, I9.pins_of fun p hp => ?_, rv.append (.cons r8 .nil), T.keep _ _ _ (back I8).1 hk9, (back I8).2, w8⟩
        have e : p = (s2.heap.objs.size, { cls := .type "list", data := .seq (List.toArray (its ++ [y])) k9 }) := by simpa using hp
        subst e
        exact ⟨e9', pD8.2.1, pD8.2.2.1, pD8.2.2.2.1, fun v z => nomatch z⟩
  exact codeAny_compStart_list (loop _ rfl) (T.self _ 0 _ _ _ (T.keep _ _ _ st2 fun b _ o e => old b o e) (loop _ rfl))
theorem pe_lcRC {X : Cx} {scope : Scope} {cl : List (Str × Addr)} {N : List Str} {bs : List (Option Nat)} {tg a elt : Expr} {ifs : List Expr} {p pos' pos : Pos} {ta : TA} {g : TG} {tt : TT} {te : TE} (B : BlkC X scope cl N bs) (hc : X.calm = true)
    (hgl : Gl X "range") (hmr : X.mg "range" = none) (ha : PA X [a] ta) (hm : MonoA ta) (hpl : plainE a = true) (hg : ∀ C fp s H, PG (cxBlkC X scope cl C N fp s H) tg g) (ht : ∀ C fp s H, PTs (cxBlkC X scope cl C N fp s H) ifs tt) (he : ∀ C fp s H, PE (cxBlkC X scope cl C N fp s H) elt te)
    (hs : ∀ x, foldedSetIterable (.Call (.Name "range" p) [a] [] pos') X.env x = pure x := by intro _; rfl) : PE X (.ListComp elt [⟨tg, .Call (.Name "range" p) [a] [] pos', ifs, 0⟩] scope pos) (tLCR bs ta g tt te) := by
  intro pins s σ H Q I h
  refine @pe_lcC X scope cl N bs tg _ elt ifs pos (iRng1 ta) g tt te B hc (@pi_range1 X tg a ta p pos' hgl hmr ha (star_cons hpl)) hg ht he hs pins s σ H Q I ?_
  refine hm σ H _ _ (fun vs H1 h => ?_) h
  obtain ⟨n, e, hz, Pv, p0, pl, ps, pd⟩ := h
  refine ⟨(n : Int), e, by omega, by omega, ?_⟩
  rw [Int.toNat_natCast]
  exact lc_range (Q := Q) Pv (leMil hz) p0 pl ps fun ys σ H hp p hpn => pd ys σ H hp p _ (same_add hpn) upd_same
end L2
set_option Elab.async false
set_option linter.all false
set_option maxRecDepth 100000
set_option maxHeartbeats 4000000
namespace SetT
open PySem PySem.SetTable PySem.Spec PyProof.Rows
variable {prog : Program} {w : World} {A : Around} {E : Value → Shared → Prop} {s : Shared}
end SetT
set_option Elab.async false
set_option linter.all false
set_option maxRecDepth 100000
set_option maxHeartbeats 4000000
namespace L2
open PySem PySem.Spec PyProof.Rows
theorem first_at {k : Int} : ∀ {ns : List Int}, k ∈ ns → ∃ j : Nat, ns[j]? = some k ∧ ∀ i : Nat, i < j → ns[i]? ≠ some k
  | n :: r, h => by
    by_cases e : n = k
    · exact ⟨0, by rw [e]; rfl, fun i hi => absurd hi (Nat.not_lt_zero _)⟩
    · obtain ⟨j, h1, h2⟩ := first_at ((List.mem_cons.mp h).resolve_left fun z => e z.symm)
      refine ⟨j + 1, h1, fun i hi => ?_⟩
      cases i with
      | zero => exact fun z => e (Option.some.inj z)
      | succ i => exact h2 i (by omega)
end L2
set_option Elab.async false
set_option linter.all false
set_option maxRecDepth 100000
set_option maxHeartbeats 4000000
namespace L2
open PySem PySem.Spec PyProof.Rows
def rIndexL (K : PySem.W.Frag) : V → List V → Hp → VK → Prop := fun x vs H Q => ∃ l, ∃ ns : List Int, ∃ k : Int, x = .ref l ∧ vs = [.int k] ∧ SqL K H l (ns.map V.int) ∧ k ∈ ns ∧ ∀ j : Nat, ns[j]? = some k → (∀ i : Nat, i < j → ns[i]? ≠ some k) → Q (.int (j : Int)) H
theorem mt_indexL {X : Cx} {K : PySem.W.Frag} (hK : X.K = K) : MtM X "list.index" (rIndexL K) := by
  subst hK
  intro pins s σ H x vs v us Q I rx rv h
  obtain ⟨l, ns, k, rfl, rfl, hH, hk, q⟩ := h
  cases rx
  obtain ⟨u, rfl, ru⟩ := rv.one
  obtain ⟨t, rfl⟩ := (show ∃ t, u = Value.int k t from ru)
  obtain ⟨its, r, pl, hz'⟩ := I.list hH
  have hi := ints_of r
  have hvl := r.length
  rw [List.length_map] at hvl
  obtain ⟨j, h1, h2⟩ := first_at hk
  obtain ⟨hj, hje⟩ := List.getElem?_eq_some_iff.mp h1
  obtain ⟨⟨cls, dd, data, sl⟩, ho, hc, n, hd⟩ := pl.isList
  simp only at hc hd
  subst hc hd
  rw [sizeLine_eq, List.length_map] at hz'
  refine call_meets PySem.F.slot_list_index ⟨_, ho, rfl⟩ PySem.F.entry_list_index (PySem.F.args_list_index_2 _ _) (PySem.SeqAt.list_indexAt l its.toArray n dd sl (.int k t) (isInt k) j (by rw [List.size_toArray]; omega) (by omega) ?_ ?_) ⟨ho, fun y hy => (eq_isInt k t hi y (by simpa using hy)).at _ _, ⟨.int (j : Int), H, I.tok _, ⟨_, rfl⟩, q j h1 h2⟩⟩
  · rw [List.getElem_toArray, isInt_at k hi j (by omega) hj, hje]
    exact beq_self_eq_true _
  · intro i hm hij
    rw [List.size_toArray] at hm
    rw [List.getElem_toArray, isInt_at k hi i hm (by omega)]
    refine Bool.eq_false_iff.mpr fun z => h2 i hij ?_
    rw [List.getElem?_eq_getElem (by omega), eq_of_beq z]
end L2
set_option Elab.async false
set_option linter.all false
set_option maxRecDepth 100000
set_option maxHeartbeats 4000000
namespace My
open PySem L2
theorem perm_range {n : Nat} {ns : List Int} (h : ns.Perm ((List.range n).map fun i : Nat => (i : Int))) : ns.length = n ∧ (∀ x ∈ ns, 0 ≤ x ∧ x < n) ∧ ns.Nodup := by
  refine ⟨by rw [h.length_eq]; simp, fun x hx => ?_, ?_⟩
  · have := h.mem_iff.mp hx
    obtain ⟨i, hi, rfl⟩ := List.mem_map.mp this
    have := List.mem_range.mp hi
    omega
  · refine h.nodup_iff.mpr ?_
    rw [List.nodup_iff_pairwise_ne, List.pairwise_map]
    refine List.Pairwise.imp (fun {a b} q z => q (Int.ofNat_inj.mp z)) (List.nodup_iff_pairwise_ne.mp (List.nodup_range (n := n)))
theorem cut_take {xs : List V} {k : Nat} (h : k ≤ xs.length) : cutV xs none (some (k : Int)) = xs.take k := by
  unfold cutV
  rw [HT.sIx_nat, HT.sIx_none, List.drop_zero, Nat.min_eq_left h, Nat.sub_zero]
theorem map_nat {l : List Int} (h : ∀ x ∈ l, 0 ≤ x) : l.map V.int = nl (l.map Int.toNat) := by
  unfold nl
  rw [List.map_map]
  refine List.map_congr_left fun x hx => ?_
  show V.int x = V.int ((x.toNat : Nat) : Int)
  rw [Int.toNat_of_nonneg (h x hx)]
theorem nodup_nat : ∀ {l : List Int}, (∀ x ∈ l, 0 ≤ x) → l.Nodup → (l.map Int.toNat).Nodup
  | [], _, _ => List.nodup_nil
  | x :: r, h, nd => by
    obtain ⟨n1, n2⟩ := List.nodup_cons.mp nd
    refine List.nodup_cons.mpr ⟨fun z => ?_, nodup_nat (fun y hy => h y (.tail _ hy)) n2⟩
    obtain ⟨y, hy, e⟩ := List.mem_map.mp z
    have h1 := h x (.head _)
    have h2 := h y (.tail _ hy)
    have : y = x := by omega
    exact n1 (this ▸ hy)
section
variable {P : Program} {w : World} {K : PySem.W.Frag} {mg : Str → Option Value} {base : Heap} {Pt c : Addr}
abbrev sPt : Stmt := top 20
abbrev lamE : Expr := kwLam ((defBody sPt).getD 0 (.Pass ⟨0, 0, 0, 0⟩))
abbrev lpos : Pos := ⟨91, 54, 91, 121⟩
abbrev lqual : Str := "_law_part.<locals>.<lambda>"
abbrev nPt : List Str := ["_law_script", "_law_at", "_law_points", "_law_order"]
def spPt (K : PySem.W.Frag) (Pt : Addr) : Sp := fun vs H Q _ => ∃ (a : Addr) (ns : List Int) (at' : Int) (p : Nat), vs = [.ref a, .int at', .int (p : Int)] ∧ SqL K H a (ns.map V.int) ∧ ns.length ≤ 63 ∧ 0 ≤ at' ∧ at' ≤ 1000 ∧ 3 ≤ p ∧ p ≤ 9 ∧ TabI Pt lpos lqual H ∧
  ∀ (H' : Hp) (t : Addr) (l : List Nat), Gr Pt lpos lqual H H' → H' t = some (.tup (nl l)) → l.Nodup → (∀ x ∈ l, x < p) → 3 ≤ l.length → l.length % 2 = 1 → l.length ≤ 9 → Q (.ref t) H'
theorem scPt : FnScope nPt ["_law_script", "_law_at", "_law_points"] (defScope sPt) := ⟨rfl, rfl, rfl, by decide +kernel, rfl, by decide +kernel, by decide +kernel⟩
theorem lamT : Lam "_law_point" ["_law_script", "_law_at"] (lamArgs lamE) (lamScope lamE) :=
  ⟨rfl, rfl, rfl, by decide +kernel, rfl, fun _ _ _ _ _ _ _ _ => rfl, by decide +kernel⟩
theorem blkPt {f : Addr} {A : Around} {outer : List Env} {s : Shared} {H : Hp} {E : XK} :
    Blk (cxOf CX0 P w K mg base nPt "_law_part" (defScope sPt) f (.ref c) A outer s H E).nox (lamScope lamE) [("_law_script", s.heap.objs.size + 1), ("_law_at", s.heap.objs.size + 2)] ["_law_script", "_law_at"] [some 0, some 1] := by
  refine ⟨rfl, rfl, by decide +kernel, by decide +kernel, fun p hp => ?_, fun y hy e => ?_, ⟨rfl, rfl, rfl⟩, ⟨rfl, rfl, rfl⟩, trivial⟩
  · rcases List.mem_cons.mp hp with rfl | hp
    · rfl
    · rw [List.mem_singleton.mp hp]
      rfl
  · have hy' : y ∈ [((PySem.Str.ofString "_law_point" : Str), NameKind.local), (PySem.Str.ofString "_law_at", .free), (PySem.Str.ofString "_law_script", .free), (PySem.Str.ofString "_law_draw", .globalImplicit)] := hy
    simp only [List.mem_cons, List.not_mem_nil, or_false] at hy'
    rcases hy' with rfl | rfl | rfl | rfl
    · cases e
    · rfl
    · rfl
    · cases e
theorem ok_pt {f : Addr} {fd : FuncData} (F : FunC K "_law_part" "_law_part" sPt f fd c) (T : Bi mg) (hso : mg "sorted" = none) (hbm : BM mg base) (hC : PySem.W.codeHdIn K c Pt = true)
    (FD : FnE P w K mg base "_law_draw" ["_law_script", "_law_k"] 1 (spDraw K)) :
    FnOk P w K mg base CX0 5 f fd ["_law_script", "_law_at", "_law_points"] (spPt K Pt) := by
  refine F.ok scPt (fun vs H Q E h => ?_) (fun A outer s H vs Q E hr h => ?_)
  · obtain ⟨a, ns, at', p, rfl, _⟩ := h
    rfl
  · obtain ⟨a, ns, at', p, rfl, hS, hl, t0, t1, p3, p9, hT, q⟩ := h
    have hr1 : Room 1 _ := hr.mono (by decide)
    refine ⟨_, pss_cons (ps_set (i := 3) scPt.nd rfl (Or.inl rfl) (pe_sortLam (k := 1) (x := "_law_point") (P := Pt) (qual := lqual) blkPt lamT hbm rfl hC rfl rfl hr rfl hso
          (pe_callTy (call_listRng rfl) rfl T.list bList (pa_c (pe_callTy call_rng rfl T.range bRange (pa_c (pv 2) pa_nil)) pa_nil))
          (fun f' c' A' s' H' hr' => pe_fc FD hr' (pa_c (pv 1) (pa_c (pe_op op_add (pe_op op_add (pv 2) pe_int) (pv 0)) pa_nil)))))
      (pss_one (ps_ret (pe_callTy call_tuple_of rfl T.tuple bTuple (pa_c (pe_slice sl_list (pv 3) po_none (po_some (pe_op op_add pe_int (pe_op op_mul pe_int (pe_op op_mod (pe_fc FD hr1 (pa_c (pv 0) (pa_c (pv 1) pa_nil))) (pe_op op_fdiv (pe_op op_sub (pv 2) pe_int) pe_int)))))) pa_nil)))), ?_⟩
    refine ⟨_, rfl, _, rfl, fun pr hpr => ⟨pr, p, rfl, upd_same, by omega, fun l hl1 => ?_⟩⟩
    have hprl : pr ≠ l := fun z => by subst z; rw [upd_same] at hl1; cases hl1
    have sm1 : Same H (upd (upd H pr (.rng 0 (p : Int))) l (.lst ((nUpTo p).map V.int))) := (same_new hpr).trans (same_new hl1)
    refine ⟨l, nUpTo p, fun z => draw ns (at' + 1 + z), [.ref a, .int at'], rfl, SqL.of upd_same, (by simp [nUpTo]; omega), hT.same sm1, rfl, fun H2 g2 => ⟨fun n hn => ?_, fun D ns' hD hP hO => ?_⟩⟩
    · obtain ⟨i, hi, rfl⟩ := List.mem_map.mp hn
      have hi' := List.mem_range.mp hi
      refine ⟨_, rfl, _, rfl, _, _, rfl, rfl, _, rfl, _, _, rfl, rfl, a, ns, _, rfl, g2.sqL (hT.same sm1) (sm1.seq hS), hl, by omega, by omega, rfl, rfl⟩
    obtain ⟨lenN, rngN, ndN⟩ := perm_range (n := p) hP
    have G2 : Gr Pt lpos lqual H H2 := ⟨fun b o e n => g2.keep b o (sm1 b o e) n, g2.tab⟩
    have G3 : Gr Pt lpos lqual H (upd H2 D (.lst (ns'.map V.int))) := G2.new hD
    have hhalf : (((p : Nat) : Int) - 1) / 2 = (((p - 1) / 2 : Nat) : Int) := by omega
    have hh1 : 0 < (p - 1) / 2 := by omega
    have d1 := mod_lo (n := draw ns at') (p := (((p - 1) / 2 : Nat) : Int)) (by omega)
    have d2 := mod_hi (n := draw ns at') (p := (((p - 1) / 2 : Nat) : Int)) (by omega)
    obtain ⟨m, hm⟩ : ∃ m : Nat, draw ns at' % (((p - 1) / 2 : Nat) : Int) = (m : Int) := ⟨(draw ns at' % (((p - 1) / 2 : Nat) : Int)).toNat, by omega⟩
    refine ⟨_, rfl, _, rfl, _, rfl, a, ns, at', rfl, G3.sqL hT hS, hl, t0, by omega, _, rfl, _, _, rfl, rfl, _, _, rfl, rfl, ⟨by decide, by decide⟩, _, _, rfl, rfl, (by rw [hhalf]; show (0 : Int) < (((p - 1) / 2 : Nat) : Int); omega), ?_⟩
    rw [hhalf]
    rw [hm] at d2
    refine ⟨2, (m : Int), rfl, congrArg V.int hm, .inl ⟨by decide, by decide⟩, _, _, rfl, rfl, _, rfl, D, _, rfl, SqL.of upd_same, fun l1 h1 => ?_⟩
    refine ⟨l1, _, rfl, .inl ⟨SqL.of upd_same, fun l2 h2 => ?_⟩⟩
    have ek : (3 : Int) + 2 * (m : Int) = ((3 + 2 * m : Nat) : Int) := by omega
    have hkl : 3 + 2 * m ≤ (ns'.map V.int).length := by rw [List.length_map, lenN]; omega
    have pos : ∀ x ∈ ns'.take (3 + 2 * m), 0 ≤ x := fun x hx => (rngN x (List.mem_of_mem_take hx)).1
    have ec : cutV (ns'.map V.int) none (some (3 + 2 * (m : Int))) = nl ((ns'.take (3 + 2 * m)).map Int.toNat) := by
      rw [ek, cut_take hkl, ← map_nat pos, List.map_take]
    have el : ((ns'.take (3 + 2 * m)).map Int.toNat).length = 3 + 2 * m := by
      rw [List.length_map, List.length_take, lenN]
      omega
    refine q _ l2 ((ns'.take (3 + 2 * m)).map Int.toNat) ((G3.new h1).new h2) (by rw [upd_same, ec]) (nodup_nat pos (ndN.sublist (List.take_sublist _ _))) (fun x hx => ?_) (by rw [el]; omega) (by rw [el]; omega) (by rw [el]; omega)
    obtain ⟨y, hy, rfl⟩ := List.mem_map.mp hx
    obtain ⟨y0, y1⟩ := rngN y (List.mem_of_mem_take hy)
    omega
end
end My
set_option Elab.async false
set_option linter.all false
set_option maxRecDepth 100000
set_option maxHeartbeats 4000000
namespace L2
open PySem PySem.Spec PyProof.Rows
theorem pe_lcTK {X : Cx} {K : PySem.W.Frag} {scope : Scope} {cl : List (Str × Addr)} {N : List Str} {bs : List (Option Nat)} {tg iter elt : Expr} {ifs : List Expr} {pos : Pos} {tl : TE} {g : TG} {tt : TT} {te : TE} (hK : X.K = K) (B : Blk X scope cl N bs) (hc : X.calm = true)
    (hl : PE X iter tl) (hm : MonoE tl) (hg : ∀ C fp s H, PG (cxBlk X scope cl C N fp s H) tg g) (ht : ∀ C fp s H, PTs (cxBlk X scope cl C N fp s H) ifs tt) (he : ∀ C fp s H, PE (cxBlk X scope cl C N fp s H) elt te)
    (hs : ∀ x, foldedSetIterable iter X.env x = pure x := by intro _; rfl) : PE X (.ListComp elt [⟨tg, iter, ifs, 0⟩] scope pos) (tLCT K bs tl g tt te) := by
  subst hK
  exact pe_lcT B hc hl hm hg ht he hs
end L2
namespace My
open PySem L2
theorem firsts_head {es : List (Nat × Nat)} {M : Int} {x : Nat} : ∀ {n : Nat}, (firsts es M n)[0]? = some x → (dg es es.length x : Int) = M ∧ x < n ∧ ∀ i, i < x → (dg es es.length i : Int) ≠ M
  | 0, h => by cases h
  | n + 1, h => by
    by_cases e : (dg es es.length n : Int) = M
    · rw [firsts_in e] at h
      cases q : firsts es M n with
      | nil =>
        rw [q] at h
        cases h
        refine ⟨e, Nat.lt_succ_self _, fun i hi z => ?_⟩
        have : i ∈ firsts es M _ := List.mem_filter.mpr ⟨List.mem_range.mpr hi, decide_eq_true z⟩
        rw [q] at this
        cases this
      | cons y r =>
        rw [q] at h
        cases h
        obtain ⟨a, b, c⟩ := firsts_head (n := n) (x := x) (by rw [q]; rfl)
        exact ⟨a, Nat.lt_succ_of_lt b, c⟩
    · rw [firsts_out e] at h
      obtain ⟨a, b, c⟩ := firsts_head h
      exact ⟨a, Nat.lt_succ_of_lt b, c⟩
theorem dl_get (es : List (Nat × Nat)) {n i : Nat} (h : i < n) : (dl es n)[i]? = some (dg es es.length i : Int) := by
  unfold dl
  rw [List.getElem?_map, List.getElem?_range h]
  rfl
theorem dl_len (es : List (Nat × Nat)) (n : Nat) : (dl es n).length = n := by
  unfold dl
  rw [List.length_map, List.length_range]
theorem dl_succ (es : List (Nat × Nat)) (i : Nat) : dl es (i + 1) = dl es i ++ [(dg es es.length i : Int)] := by
  unfold dl
  rw [List.range_succ, List.map_append]
  rfl
theorem first_same {es : List (Nat × Nat)} {M : Int} {n x j : Nat} (hx : (firsts es M n)[0]? = some x) (h1 : (dl es n)[j]? = some M) (h2 : ∀ i : Nat, i < j → (dl es n)[i]? ≠ some M) : j = x := by
  obtain ⟨a, b, c⟩ := firsts_head hx
  have hj : j < n := by
    have := (List.getElem?_eq_some_iff.mp h1).1
    rw [dl_len] at this
    exact this
  rw [dl_get es hj] at h1
  rcases Nat.lt_trichotomy j x with z | z | z
  · exact absurd (Option.some.inj h1) (c j z)
  · exact z
  · exact absurd (by rw [dl_get es b, a]) (h2 x z)
theorem max_uniq {l : List Int} {M M' : Int} (h : IsMax l M) (hl : 0 < l.length) (a : M' ∈ l) (b : ∀ x ∈ l, x ≤ M') : M' = M := by
  rcases h with ⟨e, _⟩ | ⟨h1, h2⟩
  · rw [e] at hl
    exact absurd hl (Nat.lt_irrefl _)
  · have := h2 M' a
    have := b M h1
    omega
def retLC : Stmt → Scope
  | .Return (some (.ListComp _ _ s _)) _ => s
  | _ => { kind := .function, names := [], isGenerator := false, isCoroutine := false }
def retLC2 : Stmt → Scope
  | .Return (some (.ListComp (.Call _ [.ListComp _ _ s _] _ _) _ _ _)) _ => s
  | _ => { kind := .function, names := [], isGenerator := false, isCoroutine := false }
section
variable {P : Program} {w : World} {K : PySem.W.Frag} {mg : Str → Option Value} {base : Heap}
abbrev sLc : Stmt := top 22
abbrev lcS1 : Scope := retLC (stOf 22 0)
abbrev lcS2 : Scope := retLC2 (stOf 22 0)
abbrev nL1 : List Str := ["_law_point", "_law_net_here"]
def spLc : Sp := fun vs H Q _ => ∃ (p : Addr) (n : Nat) (q : Addr) (ts : List V) (es : List (Nat × Nat)), vs = [.ref p] ∧ NetZ H p n q ts es ∧ ∀ (H' : Hp) (l : Addr), Same H H' → H' l = some (.lst ((dl es n).map V.int)) → Q (.ref l) H'
theorem ndL1 : nL1.Nodup := by decide +kernel
theorem ndL2 : (["_law_tie_here", "_law_point"] : List Str).Nodup := by decide +kernel
theorem scLc : FnScope ["_law_net_here"] ["_law_net_here"] (defScope sLc) := ⟨rfl, rfl, rfl, by decide +kernel, rfl, by decide +kernel, by decide +kernel⟩
theorem blkL1 {f : Addr} {cdv : Value} {A : Around} {outer : List Env} {s : Shared} {H : Hp} {E : XK} :
    BlkC (cxOf CX0 P w K mg base ["_law_net_here"] "_law_crowds" (defScope sLc) f cdv A outer s H E).nox lcS1 [("_law_net_here", s.heap.objs.size + 1)] nL1 [none, some 0] := by
  refine ⟨rfl, rfl, by decide +kernel, by decide +kernel, fun p hp => ?_, fun y hy e => ?_, ⟨rfl, rfl, rfl⟩, trivial⟩
  · rw [List.mem_singleton.mp hp]
    rfl
  · have hy' : y ∈ [((PySem.Str.ofString ".0" : Str), NameKind.local), (PySem.Str.ofString "_law_point", .cell), (PySem.Str.ofString "len", .globalImplicit), (PySem.Str.ofString "_law_net_here", .free)] := hy
    simp only [List.mem_cons, List.not_mem_nil, or_false] at hy'
    rcases hy' with rfl | rfl | rfl | rfl <;> first | rfl | cases e
theorem blkL2 {f : Addr} {cdv : Value} {A : Around} {outer : List Env} {s s' : Shared} {H H' : Hp} {E : XK} {C : Addr} {fp : List Addr} :
    Blk (cxBlkC (cxOf CX0 P w K mg base ["_law_net_here"] "_law_crowds" (defScope sLc) f cdv A outer s H E).nox lcS1 [("_law_net_here", s.heap.objs.size + 1)] C nL1 fp s' H') lcS2 [("_law_point", C + 1)] ["_law_tie_here", "_law_point"] [none, some 0] := by
  refine ⟨rfl, rfl, by decide +kernel, by decide +kernel, fun p hp => ?_, fun y hy e => ?_, ⟨rfl, rfl, rfl⟩, trivial⟩
  · rw [List.mem_singleton.mp hp]
    rfl
  · have hy' : y ∈ [((PySem.Str.ofString ".0" : Str), NameKind.local), (PySem.Str.ofString "_law_tie_here", .local), (PySem.Str.ofString "_law_point", .free)] := hy
    simp only [List.mem_cons, List.not_mem_nil, or_false] at hy'
    rcases hy' with rfl | rfl | rfl <;> first | rfl | cases e
theorem ok_lc {f : Addr} {fd : FuncData} (F : Fun K "_law_crowds" "_law_crowds" sLc f fd) (T : Bi mg) : FnOk P w K mg base CX0 1 f fd ["_law_net_here"] spLc := by
  refine F.ok scLc (fun vs H Q E h => ?_) (fun cdv A outer s H vs Q E hr h => ?_)
  · obtain ⟨p, n, q, ts, es, rfl, _⟩ := h
    rfl
  · obtain ⟨p, n, qa, ts, es, rfl, N, q⟩ := h
    have h60 := N.n60
    have h200 := N.l200
    have hlen := N.len
    refine ⟨_, pss_one (ps_ret (pe_lcRC blkL1 rfl rfl T.range (pa_c (pe_ix ix_tup (pv 0) pe_int (fun _ _ => rfl)) pa_nil) (monoA_cons (mono_ixT (mono_var 0) (mono_c _)) monoA_nil) rfl
      (fun C fp s H => pg_name (i := 0) ndL1 rfl (Or.inr rfl)) (fun C fp s H => pts_nil)
      (fun C fp s H => pe_callB (call_lenK (K := K) rfl) rfl T.len bLen (pa_c (pe_lcTK (K := K) rfl blkL2 rfl (pe_ix (ix_tupQ (K := K) rfl) (pv 1) pe_int (fun _ _ => rfl)) (mono_ixT (mono_var 1) (mono_c _)) (fun C fp s H => pg_name (i := 0) ndL2 rfl (Or.inl rfl))
        (fun C fp s H => pts_one (pt_cmpR (op_inQ (K := K) rfl) (pv 1) (pv 0) rfl)) (fun C fp s H => pv 0)) pa_nil)))), ?_⟩
    refine ⟨_, rfl, p, _, _, _, rfl, rfl, SqT.of N.e1, rfl, n, rfl, by omega, fun i ys σ G => Same H G ∧ ys = (dl es i).map V.int ∧ ∃ v0, σ = [v0, some (.ref p)], ⟨Same.refl _, rfl, none, rfl⟩, fun i ys σ G hi ⟨_, e, _⟩ => (by rw [e, List.length_map, dl_len]; exact Nat.le_refl _), fun i ys σ G hi ⟨sG, e1, v0, e⟩ => ?_, fun ys σ G ⟨sG, e1, _⟩ l G2 s2 hl => ?_⟩
    · subst e1 e
      refine ⟨_, rfl, p, _, _, _, rfl, rfl, SqT.of (sG _ _ N.e1), rfl, qa, _, rfl, SqT.of (sG _ _ N.e2), by omega, fun k zs σ G' => Same G G' ∧ zs.length = dg es k i ∧ ∃ v0, σ = [v0, some (.int (0 + (i : Int)))], ⟨Same.refl _, rfl, none, rfl⟩, fun k zs σ G' hk ⟨sG', e2, _⟩ => ⟨SqT.of (sG' _ _ (sG _ _ N.e2)), by rw [e2]; exact atsTo_len es i k⟩, fun k x zs σ G' hx ⟨sG', e2, v0, e⟩ => ?_, fun zs σ G' ⟨sG', e2, _⟩ l G2 s2 hl => ?_⟩
      · subst e
        obtain ⟨a, rfl, ha⟩ := N.tie k x hx
        have ha2 := sG' _ _ (sG _ _ ha)
        refine ⟨_, rfl, _, rfl, a, _, rfl, .inr (SqT.of ha2), rfl, rfl, _, rfl, ?_⟩
        rw [Int.zero_add]
        refine ite2 (fun hh => ⟨_, rfl, sG', ?_, _, rfl⟩) (fun hh => ⟨sG', ?_, _, rfl⟩)
        · have hA := (in_at i (es.getD k (0, 0))).mp hh
          rw [dg_succ, if_pos (atB_iff.mpr hA), List.length_append, e2]
          rfl
        · have hA : ¬ At (es.getD k (0, 0)) i := fun z => hh ((in_at i (es.getD k (0, 0))).mpr z)
          rw [dg_succ, if_neg (fun z => hA (atB_iff.mp z)), e2]
          rfl
      · refine ⟨l, _, rfl, .inl (SqL.of hl), ?_⟩
        refine ⟨Same.trans sG (Same.trans sG' s2), ?_, _, rfl⟩
        rw [dl_succ, List.map_append, e2, hlen]
        rfl
    · subst e1
      exact q G2 l (Same.trans sG s2) hl
end
end My
set_option Elab.async false
set_option linter.all false
set_option maxRecDepth 100000
set_option maxHeartbeats 4000000
namespace My
open PySem L2
theorem bStr : bootBuiltins "str" = some (.type "str") := by decide +kernel
theorem sam_nl {K : PySem.W.Frag} {H : Hp} (l : List Nat) : ∀ (i : Nat) u v, (nl l)[i]? = some u → (nl l)[i]? = some v → Sam K H 4 u v := fun i u v h1 h2 => by
  rw [h1] at h2
  cases h2
  unfold nl at h1
  rw [List.getElem?_map] at h1
  cases q : l[i]? with
  | none => rw [q] at h1; cases h1
  | some x => rw [q] at h1; cases h1; exact .inl ⟨rfl, trivial⟩
theorem bd_alike {K : PySem.W.Frag} {H : Hp} {es : List (Nat × Nat)} {n : Nat} {t t' : Addr} (h : Bd H es n t) (h' : Bd H es n t') : ∃ xs ys : List V, H t = some (.tup xs) ∧ H t' = some (.tup ys) ∧ xs.length = ys.length ∧ ∀ (i : Nat) u v, xs[i]? = some u → ys[i]? = some v → Sam K H 6 u v := by
  obtain ⟨M, hM, c⟩ := h
  obtain ⟨M', hM', c'⟩ := h'
  cases IsMax.uniq hM hM'
  rcases c with ⟨a, b⟩ | ⟨a, N, v, b, _, _, _, o, ho, hp⟩ <;> rcases c' with ⟨a', b'⟩ | ⟨a', N', v', b', _, _, _, o', ho', hp'⟩
  · refine ⟨_, _, b, b', rfl, fun i u v h1 h2 => ?_⟩
    match i, h1, h2 with
    | 0, h1, h2 => cases h1; cases h2; exact .inl ⟨rfl, trivial⟩
    | 1, h1, h2 => cases h1; cases h2; exact .inl ⟨rfl, trivial⟩
  · omega
  · omega
  · rw [ho] at ho'
    cases ho'
    refine ⟨_, _, b, b', rfl, fun i u w h1 h2 => ?_⟩
    match i, h1, h2 with
    | 0, h1, h2 => cases h1; cases h2; exact .inl ⟨rfl, trivial⟩
    | 1, h1, h2 =>
      cases h1; cases h2
      rcases hp with ⟨e, u1, x, rfl, hu, hx⟩ | ⟨u1, t1, l, e, rfl, hu, ht⟩ <;> rcases hp' with ⟨e', u2, x', rfl, hu', hx'⟩ | ⟨u2, t2, l', e', rfl, hu', ht'⟩
      · rw [hx] at hx'
        cases hx'
        refine .inr ⟨u1, u2, _, _, rfl, rfl, .inl ⟨SqT.of hu, SqT.of hu'⟩, rfl, fun i u v h1 h2 => ?_⟩
        match i, h1, h2 with
        | 0, h1, h2 => cases h1; cases h2; exact .inl ⟨rfl, trivial⟩
        | 1, h1, h2 => cases h1; cases h2; exact .inl ⟨rfl, trivial⟩
      · rw [e] at e'; cases e'
      · rw [e] at e'; cases e'
      · rw [e] at e'
        cases e'
        refine .inr ⟨u1, u2, _, _, rfl, rfl, .inl ⟨SqT.of hu, SqT.of hu'⟩, rfl, fun i u v h1 h2 => ?_⟩
        match i, h1, h2 with
        | 0, h1, h2 => cases h1; cases h2; exact .inl ⟨rfl, trivial⟩
        | 1, h1, h2 =>
          cases h1; cases h2
          exact .inr ⟨t1, t2, _, _, rfl, rfl, .inl ⟨SqT.of ht, SqT.of ht'⟩, rfl, sam_nl l⟩
section
variable {P : Program} {w : World} {K : PySem.W.Frag} {mg : Str → Option Value} {base : Heap}
abbrev sPf : Stmt := top 25
abbrev nPf : List Str := ["_law_net_here", "_law_number", "_law_paper", "_law_most"]
def spPf : Sp := fun vs H Q _ => ∃ (p : Addr) (n : Nat) (q : Addr) (ts : List V) (es : List (Nat × Nat)) (M N : Int) (v : V), vs = [.ref p, .int N, v] ∧ NetZ H p n q ts es ∧ 0 < n ∧ n ≤ 9 ∧ IsMax (dl es n) M ∧ Pap H es n M N v ∧ ∀ H', Same H H' → Q (.bl true) H'
theorem scPf : FnScope nPf ["_law_net_here", "_law_number", "_law_paper"] (defScope sPf) := ⟨rfl, rfl, rfl, by decide +kernel, rfl, by decide +kernel, by decide +kernel⟩
theorem ok_pf {f : Addr} {fd : FuncData} (F : Fun K "_law_paper_fits" "_law_paper_fits" sPf f fd) (T : Bi mg) (hst : mg "str" = none) (FC : FnE P w K mg base "_law_crowds" ["_law_net_here"] 1 spLc) (FI : FnE P w K mg base "_law_is" ["_law_found", "_law_due"] 1 spLi)
    (FP : FnE P w K mg base "_law_is_part" ["_law_net_here", "_law_part_here"] 1 spIp) (FB : FnE P w K mg base "_law_bar" ["_law_net_here", "_law_part_here"] 1 spBr) : FnOk P w K mg base CX0 2 f fd ["_law_net_here", "_law_number", "_law_paper"] spPf := by
  refine F.ok scPf (fun vs H Q E h => ?_) (fun cdv A outer s H vs Q E hr h => ?_)
  · obtain ⟨p, n, q, ts, es, M, N, v, rfl, _⟩ := h
    rfl
  · obtain ⟨p, n, qa, ts, es, M, NN, v, rfl, N, n0, n9, hM, hP, q⟩ := h
    refine ⟨_, pss_cons (ps_set (i := 3) scPf.nd rfl (Or.inl rfl) (pe_callB (call_maxs rfl) rfl T.max bMax (pa_c (pe_fc FC hr (pa_c (pv 0) pa_nil)) pa_nil)))
      (pss_cons (ps_if (PW.pt (pw_or (pt_not (pt_val (pe_callB call_isinst rfl T.isi bIsi (pa_c (pv 2) (pa_c (pe_bltn (v := .ty "tuple") rfl T.tuple bTuple rfl) pa_nil)))))
        (pw_or (pt_cmpR op_ne (pe_callB call_len_seq rfl T.len bLen (pa_c (pv 2) pa_nil)) pe_int (nomark _))
        (pw_or1 (pt_not (pt_val (pe_callB call_isinst rfl T.isi bIsi (pa_c (pe_ix ix_tup (pv 2) pe_int (fun _ _ => rfl)) (pa_c (pe_bltn (v := .ty "str") rfl hst bStr rfl) pa_nil))))))))) (pss_one (ps_ret pe_bl)) pss_nil)
      (pss_cons (ps_if (pt_cmpR op_eq (pv 1) (pv 3) (nomark _))
        (pss_one (ps_ret (pe_and (pe_cmpR op_eq (pe_ix ix_tup (pv 2) pe_int (fun _ _ => rfl)) pe_str (nomark _)) (pe_one (pe_fc FI hr (pa_c (pe_ix ix_tup (pv 2) pe_int (fun _ _ => rfl)) (pa_c (pe_bm PySem.F.plainAttrs_list PySem.F.slot_list_index PySem.F.type_list_index (mt_indexL (K := K) rfl) (pe_fc FC hr (pa_c (pv 0) pa_nil)) (pa_c (pv 3) pa_nil)) pa_nil))))))) pss_nil)
      (pss_cons (ps_if (PW.pt (pw_or (pt_cmpR op_ne (pe_ix ix_tup (pv 2) pe_int (fun _ _ => rfl)) pe_str (nomark _)) (pw_or (pt_cmpR op_lt (pv 1) (pv 3) (nomark _)) (pw_or1 (pt_not (pt_val (pe_fc FP hr (pa_c (pv 0) (pa_c (pe_ix ix_tup (pv 2) pe_int (fun _ _ => rfl)) pa_nil))))))))) (pss_one (ps_ret pe_bl)) pss_nil)
      (pss_one (ps_ret (pe_cmpR op_eq (pe_fc FB hr (pa_c (pv 0) (pa_c (pe_ix ix_tup (pv 2) pe_int (fun _ _ => rfl)) pa_nil))) (pv 1) (nomark _))))))), ?_⟩
    have hdl : 0 < (dl es n).length := by rw [dl_len]; exact n0
    refine ⟨_, rfl, p, n, qa, ts, es, rfl, N, fun H1 l s1 hl => ⟨l, dl es n, rfl, .inl (SqL.of hl), hdl, fun M' m1 m2 => ?_⟩⟩
    cases max_uniq hM hdl m1 m2
    have hMm : M ∈ dl es n := m1
    rcases hP with ⟨eN, u, x, rfl, hu, hx⟩ | ⟨lt, u, t, l', rfl, hu, ht, hl', hb⟩
    · subst eN
      have hu1 := s1 _ _ hu
      refine ⟨_, rfl, _, _, _, _, rfl, .tup hu1, kit K "tuple" "tuple" true (by decide +kernel), _, rfl, iteF ?_⟩
      refine ⟨_, rfl, u, _, rfl, .inr (SqT.of hu1), rfl, _, rfl, iteF ?_⟩
      refine ⟨_, rfl, u, _, _, _, rfl, rfl, SqT.of hu1, rfl, _, _, _, _, rfl, .str _, kit K "str" "str" true (by decide +kernel), _, rfl, iteF ?_⟩
      refine ⟨_, rfl, _, rfl, rfl, _, rfl, ?_⟩
      refine ite2 (fun _ => ?_) (fun z => absurd (decide_eq_true rfl) z)
      refine ⟨_, rfl, u, _, _, _, rfl, rfl, SqT.of hu1, rfl, rfl, _, rfl, ?_⟩
      refine ite2 (fun _ => ?_) (fun z => absurd (decide_eq_true rfl) z)
      refine ⟨_, rfl, u, _, _, _, rfl, rfl, SqT.of hu1, rfl, _, rfl, p, n, qa, ts, es, rfl, N.same s1, fun H2 l2 s2 hl2 => ?_⟩
      refine ⟨.inl ⟨rfl, _, SqL.of hl2⟩, _, rfl, l2, dl es n, _, rfl, rfl, SqL.of hl2, hMm, fun j h1 h2 => ?_⟩
      cases first_same hx h1 h2
      refine ⟨(x : Int), (x : Int), rfl, ?_⟩
      rw [decide_eq_true rfl]
      exact q H2 (Same.trans s1 s2)
    · have hu1 := s1 _ _ hu
      have ht1 := s1 _ _ ht
      obtain ⟨hsub, h3, hodd⟩ := parts_mem.mp hl'
      have hsh := subs_short n l' hsub
      refine ⟨_, rfl, _, _, _, _, rfl, .tup hu1, kit K "tuple" "tuple" true (by decide +kernel), _, rfl, iteF ?_⟩
      refine ⟨_, rfl, u, _, rfl, .inr (SqT.of hu1), rfl, _, rfl, iteF ?_⟩
      refine ⟨_, rfl, u, _, _, _, rfl, rfl, SqT.of hu1, rfl, _, _, _, _, rfl, .str _, kit K "str" "str" true (by decide +kernel), _, rfl, iteF ?_⟩
      refine ⟨_, rfl, _, rfl, rfl, _, rfl, ?_⟩
      refine ite2 (fun z => absurd (V.int.inj (of_decide_eq_true z)) (by omega)) (fun _ => ?_)
      refine ⟨_, rfl, u, _, _, _, rfl, rfl, SqT.of hu1, rfl, rfl, _, rfl, iteF ?_⟩
      refine ⟨_, rfl, _, rfl, _, _, rfl, rfl, _, rfl, ?_⟩
      refine ite2 (fun z => absurd (of_decide_eq_true z) (by omega)) (fun _ => ?_)
      refine ⟨_, rfl, _, rfl, u, _, _, _, rfl, rfl, SqT.of hu1, rfl, p, t, n, qa, ts, es, l', rfl, N.same s1, ht1, hl', _, rfl, iteF ?_⟩
      refine ⟨_, rfl, _, rfl, u, _, _, _, rfl, rfl, SqT.of hu1, rfl, p, t, n, qa, ts, es, l', rfl, N.same s1, ht1, h3, by omega, fun H2 s2 => ?_⟩
      refine ⟨_, rfl, rfl, ?_⟩
      rw [hb, decide_eq_true rfl]
      exact q H2 (Same.trans s1 s2)
end
end My
set_option Elab.async false
set_option linter.all false
set_option maxRecDepth 100000
set_option maxHeartbeats 4000000
namespace My
open PySem L2
theorem netZ_tk {H H' : Hp} {p q : Addr} {n : Nat} {ts : List V} {es : List (Nat × Nat)} (h : NetZ H p n q ts es) (k : Tk H H') : NetZ H' p n q ts es :=
  ⟨k _ _ h.e1, k _ _ h.e2, h.len, fun i t e => let ⟨a, x, y⟩ := h.tie i t e; ⟨a, x, k _ _ y⟩, h.l200, h.n60, h.ok⟩
theorem bar_nil (l : List Nat) : barN [] l = 0 := by
  show (insd [] l 0 + half l - 1) / half l = 0
  have e : insd [] l 0 = 0 := rfl
  rw [e, Nat.zero_add]
  rcases Nat.eq_zero_or_pos (half l) with z | z
  · rw [z]
  · exact Nat.div_eq_of_lt (by omega)
theorem max_nil {n : Nat} {M : Int} (h : IsMax (dl [] n) M) : M = 0 := by
  rcases h with ⟨_, e⟩ | ⟨a, _⟩
  · exact e
  · unfold dl at a
    obtain ⟨x, _, e⟩ := List.mem_map.mp a
    exact e.symm
theorem max_pos {es : List (Nat × Nat)} {n : Nat} {M : Int} (ok : ∀ e ∈ es, e.1 < n ∧ e.2 < n ∧ e.1 ≠ e.2) (h : IsMax (dl es n) M) (he : es ≠ []) : 0 < M := by
  cases es with
  | nil => exact absurd rfl he
  | cons e r =>
    obtain ⟨h1, _, _⟩ := ok e (.head _)
    have := most_le h h1
    have hd : 0 < dg (e :: r) (e :: r).length e.1 := by
      unfold dg
      refine List.length_pos_of_mem (a := 0) (List.mem_filter.mpr ⟨List.mem_range.mpr (Nat.succ_pos _), ?_⟩)
      exact atB_iff.mpr (Or.inl rfl)
    omega
theorem bd_open {H : Hp} {es : List (Nat × Nat)} {n : Nat} {t : Addr} (ok : ∀ e ∈ es, e.1 < n ∧ e.2 < n ∧ e.1 ≠ e.2) (h : Bd H es n t) : ∃ (N : Int) (v : V), H t = some (.tup [.int N, v]) ∧ (∀ l ∈ parts n, (barN es l : Int) ≤ N) ∧
    ((es = [] ∧ N = 0 ∧ v = .non) ∨ (es ≠ [] ∧ ∃ M, IsMax (dl es n) M ∧ Pap H es n M N v)) := by
  obtain ⟨M, hM, ⟨a, b⟩ | ⟨a, N, v, b, c, d, e, _⟩⟩ := h
  · have hes : es = [] := Classical.byContradiction fun z => by
      have := max_pos ok hM z
      omega
    subst hes
    exact ⟨0, .non, b, fun l _ => by rw [bar_nil]; exact Int.le_refl _, .inl ⟨rfl, rfl, rfl⟩⟩
  · have hes : es ≠ [] := fun z => by
      subst z
      have := max_nil hM
      omega
    exact ⟨N, v, b, d, .inr ⟨hes, M, hM, e⟩⟩
section
variable {P : Program} {w : World} {K : PySem.W.Frag} {mg : Str → Option Value} {base : Heap} {Pt : Addr}
abbrev sLaw : Stmt := top 28
abbrev nLaw : List Str := ["_law_script", "_law_net_here", "_law_found", "_law_number", "_law_paper", "_law_k", "_law_part_here", "_law_due", "_law_more", "_law_ties"]
def spLaw (K : PySem.W.Frag) (Pt : Addr) : Sp := fun vs H Q _ => ∃ (a : Addr) (ns : List Int), vs = [.ref a] ∧ SqL K H a (ns.map V.int) ∧ ns.length ≤ 63 ∧ TabI Pt lpos lqual H ∧ ∀ H', Q (.bl true) H'
theorem scLaw : FnScope nLaw ["_law_script"] (defScope sLaw) := ⟨rfl, rfl, rfl, by decide +kernel, rfl, by decide +kernel, by decide +kernel⟩
theorem ok_law {f : Addr} {fd : FuncData} (F : Fun K "law" "law" sLaw f fd) (T : Bi mg) (FD : FnE P w K mg base "_law_draw" ["_law_script", "_law_k"] 6 (spDraw K)) (FN : FnE P w K mg base "_law_net" ["_law_script", "_law_at"] 6 (spNet K))
    (FW : FnE P w K mg base "_law_without_ties" ["_law_points"] 6 spWt) (FB : FnE P w K mg base "bound" ["net"] 6 spBd) (FP : FnE P w K mg base "_law_paper_fits" ["_law_net_here", "_law_number", "_law_paper"] 6 spPf)
    (FPt : FnE P w K mg base "_law_part" ["_law_script", "_law_at", "_law_points"] 6 (spPt K Pt)) (FLb : FnE P w K mg base "_law_bar" ["_law_net_here", "_law_part_here"] 6 spBr) (FBr : FnE P w K mg base "bar" ["net", "part"] 6 spBr)
    (FI : FnE P w K mg base "_law_is" ["_law_found", "_law_due"] 6 spLi) (FR : FnE P w K mg base "_law_refused" ["_law_net_here"] 6 spRf) :
    FnOk P w K mg base CX0 7 f fd ["_law_script"] (spLaw K Pt) := by
  refine F.ok scLaw (fun vs H Q E h => ?_) (fun cdv A outer s H vs Q E hr h => ?_)
  · obtain ⟨a, ns, rfl, _⟩ := h
    rfl
  · obtain ⟨a, ns, rfl, hS, hl, hT, q⟩ := h
    obtain ⟨tC, hTC, rC⟩ : ∃ t, PSs (cxOf CX0 P w K mg base nLaw "law" (defScope sLaw) f cdv A outer s H E).nox ((defBody sLaw).drop 11) t ∧
        ∀ (D : Ends) (G : Hp) (p : Addr) (n : Nat) (qa : Addr) (ts : List V) (es : List (Nat × Nat)) (r : Addr) (m : Int) (v : V) {v3 v4 v5 v6 v7 : Option V}, NetZ G p n qa ts es → n ≤ 9 → Bd G es n r → 9 < m → (∀ G', D.rt (.bl true) G') →
          t D [some (.ref a), some (.ref p), some (.ref r), v3, v4, v5, v6, v7, some (.int m), some v] G := by
      refine ⟨_, pss_one (ps_ret (pe_and (pe_fc FR hr (pa_c (pe_tupS (pa_c (pv 8) (pa_c (pv 9) pa_nil))) pa_nil)) (pe_one (pe_cmpR (op_eqD hr) (pe_fc FB hr (pa_c (pv 1) pa_nil)) (pv 2) (nomark _))))), fun D G p n qa ts es r m v {v3 v4 v5 v6 v7} N n9 hB hm fin => ?_⟩
      refine ⟨_, rfl, _, rfl, rfl, fun u G1 s1 hu => ⟨u, m, v, rfl, hu, hm, fun G2 s2 => ⟨_, rfl, iteT ?_⟩⟩⟩
      have s02 := Same.trans s1 s2
      refine ⟨_, rfl, p, n, qa, ts, es, rfl, N.same s02, n9, fun G3 r' s3 hB' => ?_⟩
      have s03 := Same.trans s02 s3
      obtain ⟨xs, ys, e1, e2, e3, e4⟩ := bd_alike (K := K) hB' (hB.same s03)
      exact ⟨_, rfl, r', r, xs, ys, rfl, rfl, .inl ⟨SqT.of e1, SqT.of e2⟩, e3, e4, fin G3⟩
    obtain ⟨tA, hTA, rA⟩ : ∃ t, PSs (cxOf CX0 P w K mg base nLaw "law" (defScope sLaw) f cdv A outer s H E).nox ((defBody sLaw).drop 7) t ∧
        ∀ (D : Ends) (G : Hp) (p : Addr) (n : Nat) (qa : Addr) (ts : List V) (es : List (Nat × Nat)) (r : Addr) (NN : Int) (v : V), SqL K G a (ns.map V.int) → TabI Pt lpos lqual G → NetZ G p n qa ts es → n ≤ 9 → Bd G es n r → (∀ l ∈ parts n, (barN es l : Int) ≤ NN) → (∀ G', D.rt (.bl true) G') →
          t D [some (.ref a), some (.ref p), some (.ref r), some (.int NN), some v, none, none, none, none, none] G := by
      refine ⟨_, pss_cons (ps_for PassesOwn.never rfl (pi_range1 rfl T.range (pa_c (pe_callB (call_min2 rfl) rfl T.min bMin (pa_c pe_int (pa_c (pe_callB (call_max2 rfl) rfl T.max bMax (pa_c pe_int (pa_c (pe_callB call_len_seq rfl T.len bLen (pa_c (pv 0) pa_nil)) pa_nil))) pa_nil))) pa_nil)) (pg_name (i := 5) scLaw.nd rfl (Or.inl rfl))
          (pss_one (ps_if (pt_cmpR op_gt (pe_ix ix_tup (pv 1) pe_int (fun _ _ => rfl)) pe_int (nomark _))
            (pss_cons (ps_set (i := 6) scLaw.nd rfl (Or.inl rfl) (pe_fc FPt hr (pa_c (pv 0) (pa_c (pe_op op_add pe_int (pe_op op_mul pe_int (pv 5))) (pa_c (pe_ix ix_tup (pv 1) pe_int (fun _ _ => rfl)) pa_nil)))))
            (pss_cons (ps_set (i := 7) scLaw.nd rfl (Or.inl rfl) (pe_fc FLb hr (pa_c (pv 1) (pa_c (pv 6) pa_nil))))
            (pss_one (ps_if (PW.pt (pw_or (pt_not (pt_val (pe_fc FI hr (pa_c (pe_fc FBr hr (pa_c (pv 1) (pa_c (pv 6) pa_nil))) (pa_c (pv 7) pa_nil))))) (pw_or1 (pt_cmpR op_gt (pv 7) (pv 3) (nomark _))))) (pss_one (ps_ret pe_bl)) pss_nil)))) pss_nil)))
        (pss_cons (ps_set (i := 8) scLaw.nd rfl (Or.inl rfl) (pe_op op_add pe_int (pe_op op_mod (pe_fc FD hr (pa_c (pv 0) (pa_c pe_int pa_nil))) pe_int)))
        (pss_cons (ps_set (i := 9) scLaw.nd rfl (Or.inl rfl) (pe_ix ix_tup (pv 1) pe_int (fun _ _ => rfl)))
        (pss_cons (ps_if (pt_cmpR op_eq (pe_op op_mod (pe_fc FD hr (pa_c (pv 0) (pa_c pe_int pa_nil))) pe_int) pe_int (nomark _)) (pss_one (ps_set (i := 9) scLaw.nd rfl (Or.inl rfl) (pe_tupS pa_nil))) pss_nil) hTC))), fun D G p n qa ts es r NN v hSG hTG N n9 hB hall fin => ?_⟩
      have hmin : ∀ z : Int, (if z < 20 then z else 20) ≤ 20 := fun z => by split <;> omega
      refine ⟨_, rfl, a, _, rfl, .inl hSG, _, _, rfl, _, _, rfl, _, rfl, ?_⟩
      have h0 : (2 : Int) ≤ (if (((ns.map V.int).length : Nat) : Int) > 2 then (((ns.map V.int).length : Nat) : Int) else 2) := by split <;> omega
      generalize (if (((ns.map V.int).length : Nat) : Int) > 2 then (((ns.map V.int).length : Nat) : Int) else 2) = z0 at *
      have hz := hmin z0
      have hz2 : (-1000000 : Int) ≤ (if z0 < 20 then z0 else 20) := by split <;> omega
      generalize (if z0 < 20 then z0 else 20) = z1 at *
      refine ⟨by omega, by omega, for_range (lo := 0) (n := z1.toNat) (fun k σ G' => ∃ v5 v6 v7 : Option V, σ = [some (.ref a), some (.ref p), some (.ref r), some (.int NN), some v, v5, v6, v7, none, none] ∧ Gr Pt lpos lqual G G')
        ⟨none, none, none, rfl, Gr.refl hTG⟩ (fun k σ G' hk ⟨v5, v6, v7, e, g⟩ => ?_) (fun σ G' ⟨v5, v6, v7, e, g⟩ => ?_)⟩
      · subst e
        have N' := netZ_tk N (g.tk hTG)
        refine ⟨_, rfl, p, _, _, _, rfl, rfl, SqT.of N'.e1, rfl, _, _, rfl, rfl, _, rfl, ?_⟩
        refine ite2 (fun z => ?_) (fun z => ⟨_, _, _, rfl, g⟩)
        have h3 : 3 ≤ n := by have := of_decide_eq_true z; omega
        refine ⟨_, rfl, _, rfl, _, _, rfl, rfl, .inl ⟨by decide, by decide⟩, _, _, rfl, rfl, _, rfl, p, _, _, _, rfl, rfl, SqT.of N'.e1, rfl, a, ns, _, n, rfl, g.sqL hTG hSG, hl, by omega, by omega, h3, n9, g.tab, fun G1 t l g1 ht nd hlt l3 lo l9 => ?_⟩
        have g01 := g.trans g1
        have N1 := netZ_tk N (g01.tk hTG)
        refine ⟨_, rfl, _, rfl, p, t, n, qa, ts, es, l, rfl, N1, ht, l3, by omega, fun G2 s2 => ?_⟩
        refine ⟨_, rfl, _, rfl, p, t, n, qa, ts, es, l, rfl, N1.same s2, s2 _ _ ht, l3, by omega, fun G3 s3 => ?_⟩
        refine ⟨_, rfl, (barN es l : Int), (barN es l : Int), rfl, _, rfl, ?_⟩
        rw [decide_eq_true (rfl : (barN es l : Int) = (barN es l : Int))]
        refine iteF ?_
        refine ⟨_, rfl, _, rfl, _, _, rfl, rfl, _, rfl, ?_⟩
        obtain ⟨l', hl', eb⟩ := part_bar (es := es) nd hlt l3 lo
        have hle := hall l' hl'
        rw [eb] at hle
        exact ite2 (fun z => absurd (of_decide_eq_true z) (by omega)) (fun _ => ⟨_, _, _, rfl, (g01.same s2).same s3⟩)
      · subst e
        have N' := netZ_tk N (g.tk hTG)
        have hB' := hB.tk (g.tk hTG)
        have hS' := g.sqL hTG hSG
        have b1 := mod_lo (n := draw ns 0) (p := 51) (by decide)
        refine ⟨_, rfl, a, ns, 0, rfl, hS', hl, by decide, by decide, _, _, rfl, rfl, (by show (0 : Int) < 51; decide), _, _, rfl, rfl, ?_⟩
        refine ⟨_, rfl, p, _, _, _, rfl, rfl, SqT.of N'.e1, rfl, ?_⟩
        refine ⟨_, rfl, a, ns, 1, rfl, hS', hl, by decide, by decide, _, _, rfl, rfl, (by show (0 : Int) < 2; decide), rfl, _, rfl, ?_⟩
        refine ite2 (fun _ => ⟨rfl, fun u G1 s1 hu => ?_⟩) (fun _ => ?_)
        · exact rC D G1 p n qa ts es r _ _ (N'.same s1) n9 (hB'.same s1) (by show (9 : Int) < 10 + draw ns 0 % 51; omega) fin
        · exact rC D G' p n qa ts es r _ _ N' n9 hB' (by show (9 : Int) < 10 + draw ns 0 % 51; omega) fin
    refine ⟨_, pss_cons (ps_if (PW.pt (pw_or (pt_not (pt_val (pe_fc FW hr (pa_c pe_int pa_nil)))) (pw_or1 (pt_not (pt_val (pe_fc FW hr (pa_c pe_int pa_nil))))))) (pss_one (ps_ret pe_bl)) pss_nil)
      (pss_cons (ps_set (i := 1) scLaw.nd rfl (Or.inl rfl) (pe_fc FN hr (pa_c (pv 0) (pa_c pe_int pa_nil))))
      (pss_cons (ps_set (i := 2) scLaw.nd rfl (Or.inl rfl) (pe_fc FB hr (pa_c (pv 1) pa_nil)))
      (pss_cons (ps_if (PW.pt (pw_or (pt_not (pt_val (pe_callB call_isinst rfl T.isi bIsi (pa_c (pv 2) (pa_c (pe_bltn (v := .ty "tuple") rfl T.tuple bTuple rfl) pa_nil))))) (pw_or1 (pt_cmpR op_ne (pe_callB call_len_seq rfl T.len bLen (pa_c (pv 2) pa_nil)) pe_int (nomark _))))) (pss_one (ps_ret pe_bl)) pss_nil)
      (pss_cons (ps_asg (pv 2) (pg_tup rfl (pgs_cons (pg_name (i := 3) scLaw.nd rfl (Or.inl rfl)) (pgs_cons (pg_name (i := 4) scLaw.nd rfl (Or.inl rfl)) pgs_nil))))
      (pss_cons (ps_if (PW.pt (pw_or (pt_not (pt_val (pe_callB call_isinst rfl T.isi bIsi (pa_c (pv 3) (pa_c (pe_bltn (v := .ty "int") rfl T.int bInt rfl) pa_nil))))) (pw_or1 (pt_val (pe_callB call_isinst rfl T.isi bIsi (pa_c (pv 3) (pa_c (pe_bltn (v := .ty "bool") rfl T.bool bBool rfl) pa_nil))))))) (pss_one (ps_ret pe_bl)) pss_nil)
      (pss_cons (ps_if (pt_cmpR op_eq (pe_callB call_len_seq rfl T.len bLen (pa_c (pe_ix ix_tup (pv 1) pe_int (fun _ _ => rfl)) pa_nil)) pe_int (nomark _))
        (pss_one (ps_if (PW.pt (pw_or (pt_cmpR op_ne (pv 3) pe_int (nomark _)) (pw_or1 (pt_cmpR op_notN (pv 4) pe_non (nomark _))))) (pss_one (ps_ret pe_bl)) pss_nil))
        (pss_one (ps_if (pt_not (pt_val (pe_fc FP hr (pa_c (pv 1) (pa_c (pv 3) (pa_c (pv 4) pa_nil)))))) (pss_one (ps_ret pe_bl)) pss_nil)))
      hTA)))))), ?_⟩
    refine ⟨0, rfl, by decide, fun H1 s1 => ⟨_, rfl, iteF ?_⟩⟩
    refine ⟨1, rfl, by decide, fun H2 s2 => ⟨_, rfl, iteF ?_⟩⟩
    have s02 := Same.trans s1 s2
    refine ⟨_, rfl, a, ns, rfl, s02.seq hS, hl, fun H3 p n qa ts es s3 N n1 n9 e20 => ?_⟩
    have s03 := Same.trans s02 s3
    refine ⟨_, rfl, p, n, qa, ts, es, rfl, N, n9, fun H4 r s4 hB => ?_⟩
    have s04 := Same.trans s03 s4
    have N4 := N.same s4
    obtain ⟨NN, v, hr4, hall, hc⟩ := bd_open N4.ok hB
    refine ⟨_, rfl, _, _, _, _, rfl, .tup hr4, kit K "tuple" "tuple" true (by decide +kernel), _, rfl, iteF ?_⟩
    refine ⟨_, rfl, r, _, rfl, .inr (SqT.of hr4), rfl, _, rfl, iteF ?_⟩
    refine ⟨_, rfl, r, _, rfl, SqT.of hr4, rfl, _, _, rfl, _, _, rfl, rfl, ?_⟩
    refine ⟨_, rfl, _, _, _, _, rfl, .int _, kit K "int" "int" true (by decide +kernel), _, rfl, iteF ?_⟩
    refine ⟨_, rfl, _, _, _, _, rfl, .int _, kit K "int" "bool" false (by decide +kernel), _, rfl, iteF ?_⟩
    refine ⟨_, rfl, p, _, _, _, rfl, rfl, SqT.of N4.e1, rfl, qa, _, rfl, .inr (SqT.of N4.e2), rfl, _, rfl, ?_⟩
    have hlen := N4.len
    rcases hc with ⟨he, eN, ev⟩ | ⟨he, M, hM, hP⟩
    · subst eN ev
      have l0 : es.length = 0 := by rw [he]; rfl
      refine ite2 (fun _ => ?_) (fun z => absurd (decide_eq_true (by show V.int (ts.length : Int) = V.int 0; rw [hlen, l0]; rfl)) z)
      refine ⟨_, rfl, rfl, _, rfl, iteF ?_⟩
      refine ⟨_, rfl, rfl, _, rfl, iteF ?_⟩
      exact rA _ H4 p n qa ts es r 0 .non (s04.seq hS) (hT.same s04) N4 n9 hB hall fun G' => q G'
    · have l0 : 0 < es.length := List.length_pos_iff.mpr he
      refine ite2 (fun z => absurd (V.int.inj (of_decide_eq_true z)) (by omega)) (fun _ => ?_)
      refine ⟨_, rfl, _, rfl, _, rfl, p, n, qa, ts, es, M, NN, v, rfl, N4, n1, n9, hM, hP, fun H5 s5 => ⟨_, rfl, iteF ?_⟩⟩
      have s05 := Same.trans s04 s5
      exact rA _ H5 p n qa ts es r NN v (s05.seq hS) (hT.same s05) (N4.same s5) n9 (hB.same s5) hall fun G' => q G'
end
end My
set_option Elab.async false
set_option linter.all false
set_option maxRecDepth 100000
set_option maxHeartbeats 4000000
namespace My
open PySem L2
theorem hd_any {K : PySem.W.Frag} {P : Addr} (h : (K.any fun p => PySem.W.codeHdIn K p.1 P) = true) : ∃ c, PySem.W.codeHdIn K c P = true := let ⟨p, _, e⟩ := List.any_eq_true.mp h; ⟨p.1, e⟩
theorem all_mk {l : PySem.W.OpenLaw} {w : World} {K : PySem.W.Frag} {h : Heap} {mg : Str → Option Value} {fa Pt c11  f1 f2 f3 f4 f5 f6 f7 f8 f9 f10 f11 f12 f13 f14 f15 f16 f17 f18 f19 : Addr} (X : K.In h) (G : h.Ns mainGlobals mg) (hfa : mg "law" = some (.ref fa))
    {tA : Tok} {cTF cTE fI cM1 cM2 cM3 : Addr} {odI anI : Option Addr} {slI : Array (Option Value)} {ocI kVI dcI pmI cdI ctI : Value} {od1 an1 od2 an2 od3 an3 od4 an4 od5 an5 od6 an6 od7 an7 od8 an8 od9 an9 od10 an10 od11 an11 od12 an12 od13 an13 od14 an14 od15 an15 od16 an16 od17 an17 od18 an18 od19 an19 : Option Addr} {sl1 sl2 sl3 sl4 sl5 sl6 sl7 sl8 sl9 sl10 sl11 sl12 sl13 sl14 sl15 sl16 sl17 sl18 sl19 : Array (Option Value)} {oc1 kV1 dc1 pm1 cd1 ct1 oc2 kV2 dc2 pm2 cd2 ct2 oc3 kV3 dc3 pm3 cd3 ct3 oc4 kV4 dc4 pm4 cd4 ct4 oc5 kV5 dc5 pm5 cd5 ct5 oc6 kV6 dc6 pm6 cd6 ct6 oc7 kV7 dc7 pm7 cd7 ct7 oc8 kV8 dc8 pm8 cd8 ct8 oc9 kV9 dc9 pm9 cd9 ct9 oc10 kV10 dc10 pm10 cd10 ct10 oc11 kV11 dc11 pm11 ct11 oc12 kV12 dc12 pm12 cd12 ct12 oc13 kV13 dc13 pm13 cd13 ct13 oc14 kV14 dc14 pm14 cd14 ct14 oc15 kV15 dc15 pm15 cd15 ct15 oc16 kV16 dc16 pm16 cd16 ct16 oc17 kV17 dc17 pm17 cd17 ct17 oc18 kV18 dc18 pm18 cd18 ct18 oc19 kV19 dc19 pm19 cd19 ct19 : Value}
    (a1 : PySem.W.nsIn K mainGlobals "ties_at" = some (some (.ref f1)))
    (l1 : K.lookup f1 = some ⟨oc1, od1, .func (PySem.W.fnOf "ties_at" "ties_at" (defArgs sAt) (defBody sAt) (defScope sAt) .none kV1 dc1 pm1 an1 cd1 ct1), sl1⟩)
    (c1' : PySem.W.codeIn K cd1 "ties_at" = true)
    (k1 : PySem.W.keepIn K (.ref f1) = true)
    (a2 : PySem.W.nsIn K mainGlobals "crowd" = some (some (.ref f2)))
    (l2 : K.lookup f2 = some ⟨oc2, od2, .func (PySem.W.fnOf "crowd" "crowd" (defArgs sCr) (defBody sCr) (defScope sCr) .none kV2 dc2 pm2 an2 cd2 ct2), sl2⟩)
    (c2' : PySem.W.codeIn K cd2 "crowd" = true)
    (k2 : PySem.W.keepIn K (.ref f2) = true)
    (a3 : PySem.W.nsIn K mainGlobals "most_of" = some (some (.ref f3)))
    (l3 : K.lookup f3 = some ⟨oc3, od3, .func (PySem.W.fnOf "most_of" "most_of" (defArgs sMo) (defBody sMo) (defScope sMo) .none kV3 dc3 pm3 an3 cd3 ct3), sl3⟩)
    (c3' : PySem.W.codeIn K cd3 "most_of" = true)
    (k3 : PySem.W.keepIn K (.ref f3) = true)
    (a4 : PySem.W.nsIn K mainGlobals "bar" = some (some (.ref f4)))
    (l4 : K.lookup f4 = some ⟨oc4, od4, .func (PySem.W.fnOf "bar" "bar" (defArgs sBr) (defBody sBr) (defScope sBr) .none kV4 dc4 pm4 an4 cd4 ct4), sl4⟩)
    (c4' : PySem.W.codeIn K cd4 "bar" = true)
    (k4 : PySem.W.keepIn K (.ref f4) = true)
    (a5 : PySem.W.nsIn K mainGlobals "parts_of" = some (some (.ref f5)))
    (l5 : K.lookup f5 = some ⟨oc5, od5, .func (PySem.W.fnOf "parts_of" "parts_of" (defArgs sPo) (defBody sPo) (defScope sPo) .none kV5 dc5 pm5 an5 cd5 ct5), sl5⟩)
    (c5' : PySem.W.codeIn K cd5 "parts_of" = true)
    (k5 : PySem.W.keepIn K (.ref f5) = true)
    (a6 : PySem.W.nsIn K mainGlobals "first_crowded" = some (some (.ref f6)))
    (l6 : K.lookup f6 = some ⟨oc6, od6, .func (PySem.W.fnOf "first_crowded" "first_crowded" (defArgs sFc) (defBody sFc) (defScope sFc) .none kV6 dc6 pm6 an6 cd6 ct6), sl6⟩)
    (c6' : PySem.W.codeIn K cd6 "first_crowded" = true)
    (k6 : PySem.W.keepIn K (.ref f6) = true)
    (a7 : PySem.W.nsIn K mainGlobals "bound" = some (some (.ref f7)))
    (l7 : K.lookup f7 = some ⟨oc7, od7, .func (PySem.W.fnOf "bound" "bound" (defArgs sBd) (defBody sBd) (defScope sBd) .none kV7 dc7 pm7 an7 cd7 ct7), sl7⟩)
    (c7' : PySem.W.codeIn K cd7 "bound" = true)
    (k7 : PySem.W.keepIn K (.ref f7) = true)
    (a8 : PySem.W.nsIn K mainGlobals "_law_draw" = some (some (.ref f8)))
    (l8 : K.lookup f8 = some ⟨oc8, od8, .func (PySem.W.fnOf "_law_draw" "_law_draw" (defArgs sDraw) (defBody sDraw) (defScope sDraw) .none kV8 dc8 pm8 an8 cd8 ct8), sl8⟩)
    (c8' : PySem.W.codeIn K cd8 "_law_draw" = true)
    (k8 : PySem.W.keepIn K (.ref f8) = true)
    (a9 : PySem.W.nsIn K mainGlobals "_law_tie" = some (some (.ref f9)))
    (l9 : K.lookup f9 = some ⟨oc9, od9, .func (PySem.W.fnOf "_law_tie" "_law_tie" (defArgs sTie) (defBody sTie) (defScope sTie) .none kV9 dc9 pm9 an9 cd9 ct9), sl9⟩)
    (c9' : PySem.W.codeIn K cd9 "_law_tie" = true)
    (k9 : PySem.W.keepIn K (.ref f9) = true)
    (a10 : PySem.W.nsIn K mainGlobals "_law_net" = some (some (.ref f10)))
    (l10 : K.lookup f10 = some ⟨oc10, od10, .func (PySem.W.fnOf "_law_net" "_law_net" (defArgs sNet) (defBody sNet) (defScope sNet) .none kV10 dc10 pm10 an10 cd10 ct10), sl10⟩)
    (c10' : PySem.W.codeIn K cd10 "_law_net" = true)
    (k10 : PySem.W.keepIn K (.ref f10) = true)
    (a11 : PySem.W.nsIn K mainGlobals "_law_part" = some (some (.ref f11)))
    (l11 : K.lookup f11 = some ⟨oc11, od11, .func (PySem.W.fnOf "_law_part" "_law_part" (defArgs sPt) (defBody sPt) (defScope sPt) .none kV11 dc11 pm11 an11 (.ref c11) ct11), sl11⟩)
    (c11' : PySem.W.codeIn K (.ref c11) "_law_part" = true)
    (k11 : PySem.W.keepIn K (.ref f11) = true)
    (a12 : PySem.W.nsIn K mainGlobals "_law_bar" = some (some (.ref f12)))
    (l12 : K.lookup f12 = some ⟨oc12, od12, .func (PySem.W.fnOf "_law_bar" "_law_bar" (defArgs sLb) (defBody sLb) (defScope sLb) .none kV12 dc12 pm12 an12 cd12 ct12), sl12⟩)
    (c12' : PySem.W.codeIn K cd12 "_law_bar" = true)
    (k12 : PySem.W.keepIn K (.ref f12) = true)
    (a13 : PySem.W.nsIn K mainGlobals "_law_crowds" = some (some (.ref f13)))
    (l13 : K.lookup f13 = some ⟨oc13, od13, .func (PySem.W.fnOf "_law_crowds" "_law_crowds" (defArgs sLc) (defBody sLc) (defScope sLc) .none kV13 dc13 pm13 an13 cd13 ct13), sl13⟩)
    (c13' : PySem.W.codeIn K cd13 "_law_crowds" = true)
    (k13 : PySem.W.keepIn K (.ref f13) = true)
    (a14 : PySem.W.nsIn K mainGlobals "_law_is" = some (some (.ref f14)))
    (l14 : K.lookup f14 = some ⟨oc14, od14, .func (PySem.W.fnOf "_law_is" "_law_is" (defArgs sLi) (defBody sLi) (defScope sLi) .none kV14 dc14 pm14 an14 cd14 ct14), sl14⟩)
    (c14' : PySem.W.codeIn K cd14 "_law_is" = true)
    (k14 : PySem.W.keepIn K (.ref f14) = true)
    (a15 : PySem.W.nsIn K mainGlobals "_law_is_part" = some (some (.ref f15)))
    (l15 : K.lookup f15 = some ⟨oc15, od15, .func (PySem.W.fnOf "_law_is_part" "_law_is_part" (defArgs sIp) (defBody sIp) (defScope sIp) .none kV15 dc15 pm15 an15 cd15 ct15), sl15⟩)
    (c15' : PySem.W.codeIn K cd15 "_law_is_part" = true)
    (k15 : PySem.W.keepIn K (.ref f15) = true)
    (a16 : PySem.W.nsIn K mainGlobals "_law_paper_fits" = some (some (.ref f16)))
    (l16 : K.lookup f16 = some ⟨oc16, od16, .func (PySem.W.fnOf "_law_paper_fits" "_law_paper_fits" (defArgs sPf) (defBody sPf) (defScope sPf) .none kV16 dc16 pm16 an16 cd16 ct16), sl16⟩)
    (c16' : PySem.W.codeIn K cd16 "_law_paper_fits" = true)
    (k16 : PySem.W.keepIn K (.ref f16) = true)
    (a17 : PySem.W.nsIn K mainGlobals "_law_refused" = some (some (.ref f17)))
    (l17 : K.lookup f17 = some ⟨oc17, od17, .func (PySem.W.fnOf "_law_refused" "_law_refused" (defArgs sRf) (defBody sRf) (defScope sRf) .none kV17 dc17 pm17 an17 cd17 ct17), sl17⟩)
    (c17' : PySem.W.codeIn K cd17 "_law_refused" = true)
    (k17 : PySem.W.keepIn K (.ref f17) = true)
    (a18 : PySem.W.nsIn K mainGlobals "_law_without_ties" = some (some (.ref f18)))
    (l18 : K.lookup f18 = some ⟨oc18, od18, .func (PySem.W.fnOf "_law_without_ties" "_law_without_ties" (defArgs sWt) (defBody sWt) (defScope sWt) .none kV18 dc18 pm18 an18 cd18 ct18), sl18⟩)
    (c18' : PySem.W.codeIn K cd18 "_law_without_ties" = true)
    (k18 : PySem.W.keepIn K (.ref f18) = true)
    (a19 : PySem.W.nsIn K mainGlobals "law" = some (some (.ref f19)))
    (l19 : K.lookup f19 = some ⟨oc19, od19, .func (PySem.W.fnOf "law" "law" (defArgs sLaw) (defBody sLaw) (defScope sLaw) .none kV19 dc19 pm19 an19 cd19 ct19), sl19⟩)
    (c19' : PySem.W.codeIn K cd19 "law" = true)
    (k19 : PySem.W.keepIn K (.ref f19) = true)
    (hC11 : PySem.W.codeHdIn K c11 Pt = true)
    (zA : PySem.W.nsIn K mainGlobals "MOST_BOUND_POINTS" = some (some (.int 9 tA)))
    (aTF : PySem.W.nsIn K mainGlobals "TooGreat" = some (some (.ref cTF)))
    (aTE : PySem.W.nsIn K mainGlobals "TintError" = some (some (.ref cTE)))
    (aM1 : PySem.W.nsIn K mainGlobals "NotPlain" = some (some (.ref cM1)))
    (aM2 : PySem.W.nsIn K mainGlobals "NotTwoSided" = some (some (.ref cM2)))
    (aM3 : PySem.W.nsIn K mainGlobals "TooFew" = some (some (.ref cM3)))
    (hCxc : RX.xcIn K cTF cTE = true)
    (saTF : PySem.W.findIn K (.ref cTF) "__setattr__" = some (some (.builtin "object.__setattr__")))
    (kpTF : PySem.W.keepIn K (.ref cTF) = true)
    (inTF : PySem.W.findIn K (.ref cTF) "__init__" = some (some (.ref fI)))
    (ifTF : PySem.W.isFn K (.ref fI) = true)
    (lI : K.lookup fI = some ⟨ocI, odI, .func (PySem.W.fnOf "__init__" "TooGreat.__init__" (defArgs sTg) (defBody sTg) (defScope sTg) .none kVI dcI pmI anI cdI ctI), slI⟩)
    (cI' : PySem.W.codeIn K cdI "TooGreat.__init__" = true)
    (kI : PySem.W.keepIn K (.ref fI) = true)
    (neTF : PySem.W.findIn K (.ref cTF) "most" = some none)
    (xg1 : PySem.W.findIn K (.ref cTF) "__getattribute__" = some (some (.builtin "BaseException.__getattribute__")))
    (xg2 : PySem.W.findIn K (.ref cTF) "__getattr__" = some none)
    (xg3 : PySem.W.hasDictIn K cTF = true)
    (hCx4 : PySem.W.mroIn K cTF (.type "BaseException") = some true)
    (hCx5 : PySem.W.mroIn K cTF (.type "object") = some true)
    (xg6 : PySem.W.findIn K (.ref cTF) "__class__" = some (some (.builtin "object.__class__")))
    (xg7 : PySem.W.specialIn K (.builtin "object.__class__") "__get__" = some (some (.builtin "getset_descriptor.__get__")))
    (xg8 : PySem.W.takesIn K (.builtin "object.__class__") = some true)
    (hCkc : PySem.W.kitCls K (.ref cTF) (.ref cTE) = some true)
    (hCx9 : PySem.W.mroIn K cTE (.type "BaseException") = some true)
    (hCke : PySem.W.kitOne K (.ref cTF) (.ref cTF) = some true)
    (hCkv : PySem.W.kitOne K (.ref cTF) (.type "ValueError") = some true)
    (hCkm : PySem.W.kitAny K (.ref cTF) [.ref cM1, .ref cM2, .ref cM3] = some false)
    (zV : PySem.W.nsIn K mainGlobals "ValueError" = some none)
    (z1 : PySem.W.nsIn K mainGlobals "len" = some none)
    (z2 : PySem.W.nsIn K mainGlobals "isinstance" = some none)
    (z3 : PySem.W.nsIn K mainGlobals "int" = some none)
    (z4 : PySem.W.nsIn K mainGlobals "bool" = some none)
    (z5 : PySem.W.nsIn K mainGlobals "tuple" = some none)
    (z6 : PySem.W.nsIn K mainGlobals "list" = some none)
    (z7 : PySem.W.nsIn K mainGlobals "range" = some none)
    (z8 : PySem.W.nsIn K mainGlobals "max" = some none)
    (z9 : PySem.W.nsIn K mainGlobals "min" = some none)
    (z10 : PySem.W.nsIn K mainGlobals "zip" = some none)
    (z11 : PySem.W.nsIn K mainGlobals "dict" = some none)
    (z12 : PySem.W.nsIn K mainGlobals "sorted" = some none)
    (z13 : PySem.W.nsIn K mainGlobals "str" = some none)
    (z14 : PySem.W.nsIn K mainGlobals "enumerate" = some none)
    : ∃ fd : FuncData, (∀ (s : Shared) (v : Value), BindsTo s fd ⟨[v], []⟩ [("_law_script", v)]) ∧ ∀ base : Heap, K.In base → base.Ns mainGlobals mg → BM mg base → FnOk l.prog w K mg base CX0 7 fa fd ["_law_script"] (spLaw K Pt) := by
  have e := hfa.symm.trans (PySem.W.mg_of X G a19)
  cases e
  have F1 := fun_mk (st := sAt) l1 c1' k1
  have F2 := fun_mk (st := sCr) l2 c2' k2
  have F3 := fun_mk (st := sMo) l3 c3' k3
  have F4 := fun_mk (st := sBr) l4 c4' k4
  have F5 := fun_mk (st := sPo) l5 c5' k5
  have F6 := fun_mk (st := sFc) l6 c6' k6
  have F7 := fun_mk (st := sBd) l7 c7' k7
  have F8 := fun_mk (st := sDraw) l8 c8' k8
  have F9 := fun_mk (st := sTie) l9 c9' k9
  have F10 := fun_mk (st := sNet) l10 c10' k10
  have F11 := fun_mk (st := sPt) l11 c11' k11
  have F12 := fun_mk (st := sLb) l12 c12' k12
  have F13 := fun_mk (st := sLc) l13 c13' k13
  have F14 := fun_mk (st := sLi) l14 c14' k14
  have F15 := fun_mk (st := sIp) l15 c15' k15
  have F16 := fun_mk (st := sPf) l16 c16' k16
  have F17 := fun_mk (st := sRf) l17 c17' k17
  have F18 := fun_mk (st := sWt) l18 c18' k18
  have F19 := fun_mk (st := sLaw) l19 c19' k19
  have F11c : FunC K "_law_part" "_law_part" sPt f11 _ c11 := ⟨oc11, od11, kV11, dc11, pm11, an11, ct11, sl11, rfl, l11, c11'⟩
  have b1 := F1.binds (ps := ["net", "point"]) fun _ _ _ _ _ _ us hl => match us, hl with | [_, _], _ => rfl
  have b2 := F2.binds (ps := ["net", "point"]) fun _ _ _ _ _ _ us hl => match us, hl with | [_, _], _ => rfl
  have b3 := F3.binds (ps := ["net"]) fun _ _ _ _ _ _ us hl => match us, hl with | [_], _ => rfl
  have b4 := F4.binds (ps := ["net", "part"]) fun _ _ _ _ _ _ us hl => match us, hl with | [_, _], _ => rfl
  have b5 := F5.binds (ps := ["net"]) fun _ _ _ _ _ _ us hl => match us, hl with | [_], _ => rfl
  have b6 := F6.binds (ps := ["net", "most"]) fun _ _ _ _ _ _ us hl => match us, hl with | [_, _], _ => rfl
  have b7 := F7.binds (ps := ["net"]) fun _ _ _ _ _ _ us hl => match us, hl with | [_], _ => rfl
  have b8 := F8.binds (ps := ["_law_script", "_law_k"]) fun _ _ _ _ _ _ us hl => match us, hl with | [_, _], _ => rfl
  have b9 := F9.binds (ps := ["_law_number", "_law_k", "_law_points", "_law_kind"]) fun _ _ _ _ _ _ us hl => match us, hl with | [_, _, _, _], _ => rfl
  have b10 := F10.binds (ps := ["_law_script", "_law_at"]) fun _ _ _ _ _ _ us hl => match us, hl with | [_, _], _ => rfl
  have b11 := F11.binds (ps := ["_law_script", "_law_at", "_law_points"]) fun _ _ _ _ _ _ us hl => match us, hl with | [_, _, _], _ => rfl
  have b12 := F12.binds (ps := ["_law_net_here", "_law_part_here"]) fun _ _ _ _ _ _ us hl => match us, hl with | [_, _], _ => rfl
  have b13 := F13.binds (ps := ["_law_net_here"]) fun _ _ _ _ _ _ us hl => match us, hl with | [_], _ => rfl
  have b14 := F14.binds (ps := ["_law_found", "_law_due"]) fun _ _ _ _ _ _ us hl => match us, hl with | [_, _], _ => rfl
  have b15 := F15.binds (ps := ["_law_net_here", "_law_part_here"]) fun _ _ _ _ _ _ us hl => match us, hl with | [_, _], _ => rfl
  have b16 := F16.binds (ps := ["_law_net_here", "_law_number", "_law_paper"]) fun _ _ _ _ _ _ us hl => match us, hl with | [_, _, _], _ => rfl
  have b17 := F17.binds (ps := ["_law_net_here"]) fun _ _ _ _ _ _ us hl => match us, hl with | [_], _ => rfl
  have b18 := F18.binds (ps := ["_law_points"]) fun _ _ _ _ _ _ us hl => match us, hl with | [_], _ => rfl
  have T : Bi mg := ⟨PySem.W.mg_none_of X G z1, PySem.W.mg_none_of X G z2, PySem.W.mg_none_of X G z3, PySem.W.mg_none_of X G z4, PySem.W.mg_none_of X G z5, PySem.W.mg_none_of X G z6, PySem.W.mg_none_of X G z7, PySem.W.mg_none_of X G z8, PySem.W.mg_none_of X G z9, PySem.W.mg_none_of X G z10, PySem.W.mg_none_of X G z11⟩
  have g1 := PySem.W.mg_of X G a1
  have g2 := PySem.W.mg_of X G a2
  have g3 := PySem.W.mg_of X G a3
  have g4 := PySem.W.mg_of X G a4
  have g5 := PySem.W.mg_of X G a5
  have g6 := PySem.W.mg_of X G a6
  have g7 := PySem.W.mg_of X G a7
  have g8 := PySem.W.mg_of X G a8
  have g9 := PySem.W.mg_of X G a9
  have g10 := PySem.W.mg_of X G a10
  have g11 := PySem.W.mg_of X G a11
  have g12 := PySem.W.mg_of X G a12
  have g13 := PySem.W.mg_of X G a13
  have g14 := PySem.W.mg_of X G a14
  have g15 := PySem.W.mg_of X G a15
  have g16 := PySem.W.mg_of X G a16
  have g17 := PySem.W.mg_of X G a17
  have g18 := PySem.W.mg_of X G a18
  refine ⟨PySem.W.fnOf "law" "law" (defArgs sLaw) (defBody sLaw) (defScope sLaw) .none kV19 dc19 pm19 an19 cd19 ct19, fun s v => .of_eq rfl, fun base _ _ hbm => ?_⟩
  have E1 : FnE l.prog w K mg base "ties_at" ["net", "point"] 1 spAt := ⟨⟨f1, _, ok_at F1 T (PySem.W.mg_none_of X G z14), g1, k1, b1⟩⟩
  have E2 : FnE l.prog w K mg base "crowd" ["net", "point"] 2 spCr := ⟨⟨f2, _, ok_cr F2 T E1, g2, k2, b2⟩⟩
  have E3 : FnE l.prog w K mg base "most_of" ["net"] 1 spMo := ⟨⟨f3, _, ok_mo F3 T, g3, k3, b3⟩⟩
  have E4 : FnE l.prog w K mg base "bar" ["net", "part"] 1 spBr := ⟨⟨f4, _, ok_br F4 T, g4, k4, b4⟩⟩
  have E5 : FnE l.prog w K mg base "parts_of" ["net"] 1 spPo := ⟨⟨f5, _, ok_po F5 T, g5, k5, b5⟩⟩
  have E6 : FnE l.prog w K mg base "first_crowded" ["net", "most"] 3 spFc := ⟨⟨f6, _, ok_fc F6 T E2, g6, k6, b6⟩⟩
  have E7 : FnE l.prog w K mg base "bound" ["net"] 5 spBd := ⟨⟨f7, _, ok_bd F7 (PySem.W.mg_of X G zA) (E3.mono (by decide)) (E6.mono (by decide)) (E5.mono (by decide)) (E4.mono (by decide)), g7, k7, b7⟩⟩
  have E8 : FnE l.prog w K mg base "_law_draw" ["_law_script", "_law_k"] 1 (spDraw K) := ⟨⟨f8, _, ok_draw F8 T, g8, k8, b8⟩⟩
  have E9 : FnE l.prog w K mg base "_law_tie" ["_law_number", "_law_k", "_law_points", "_law_kind"] 1 spTie := ⟨⟨f9, _, ok_tie F9 T, g9, k9, b9⟩⟩
  have E10 : FnE l.prog w K mg base "_law_net" ["_law_script", "_law_at"] 2 (spNet K) := ⟨⟨f10, _, ok_net F10 T E8 E9, g10, k10, b10⟩⟩
  have E11 : FnE l.prog w K mg base "_law_part" ["_law_script", "_law_at", "_law_points"] 5 (spPt K Pt) := ⟨⟨f11, _, ok_pt F11c T (PySem.W.mg_none_of X G z12) hbm hC11 E8, g11, k11, b11⟩⟩
  have E12 : FnE l.prog w K mg base "_law_bar" ["_law_net_here", "_law_part_here"] 1 spBr := ⟨⟨f12, _, ok_lb F12 T, g12, k12, b12⟩⟩
  have E13 : FnE l.prog w K mg base "_law_crowds" ["_law_net_here"] 1 spLc := ⟨⟨f13, _, ok_lc F13 T, g13, k13, b13⟩⟩
  have E14 : FnE l.prog w K mg base "_law_is" ["_law_found", "_law_due"] 1 spLi := ⟨⟨f14, _, ok_li F14 T, g14, k14, b14⟩⟩
  have E15 : FnE l.prog w K mg base "_law_is_part" ["_law_net_here", "_law_part_here"] 1 spIp := ⟨⟨f15, _, ok_ip F15 T, g15, k15, b15⟩⟩
  have E16 : FnE l.prog w K mg base "_law_paper_fits" ["_law_net_here", "_law_number", "_law_paper"] 2 spPf := ⟨⟨f16, _, ok_pf F16 T (PySem.W.mg_none_of X G z13) E13 E14 E15 E12, g16, k16, b16⟩⟩
  have FI := fun_mk (st := sTg) lI cI' kI
  have bI := FI.binds (ps := ["self", "most"]) fun _ _ _ _ _ _ us hl => match us, hl with | [_, _], _ => rfl
  have gTF := (PySem.W.mg_of X G aTF)
  have XC : RX.XCl K cTF cTE := ⟨hCxc, saTF, kpTF⟩
  have OBX := ok_bdX (P := l.prog) (w := w) (base := base) F7 (PySem.W.mg_of X G zA) XC inTF ifTF ((ok_tg FI XC neTF).mono (by decide)) bI gTF
  have E17 : FnE l.prog w K mg base "_law_refused" ["_law_net_here"] 6 spRf := ⟨⟨f17, _, ok_rf F17 T gTF (PySem.W.mg_of X G aTE) (PySem.W.mg_of X G aM1) (PySem.W.mg_of X G aM2) (PySem.W.mg_of X G aM3) (PySem.W.mg_none_of X G zV) hCkc hCx9 hCke hCkm hCkv ⟨xg1, xg2, xg3, hCx4, hCx5, xg6, xg7, xg8⟩ neTF OBX g7 k7 b7 (E14.mono (by decide)), g17, k17, b17⟩⟩
  have E18 : FnE l.prog w K mg base "_law_without_ties" ["_law_points"] 6 spWt := ⟨⟨f18, _, ok_wt F18 T (E7.mono (by decide)) (E14.mono (by decide)), g18, k18, b18⟩⟩
  exact ok_law F19 T (E8.mono (by decide)) (E10.mono (by decide)) E18 (E7.mono (by decide)) (E16.mono (by decide)) (E11.mono (by decide)) (E12.mono (by decide)) (E4.mono (by decide)) (E14.mono (by decide)) E17
theorem walk {l : PySem.W.OpenLaw} {q : Program} {loose : List Str} {XP : (Str → Option Value) → Heap → Prop} {YP : World → Heap → Prop} {d : DefRec} {K : Params → PySem.W.Frag} {Pt : Addr} (hn : l.most = some 63) (hdf : d.params.defaults = [])
    (hY : ∀ (w : World) (h : Heap), YP w h → (K w.params).In h) (hY2 : ∀ (w : World) (h : Heap), YP w h → ∀ Q ∈ [Pt], h.get? Q = some (PySem.W.tabObj #[])) (hKn : ∀ w : World, PySem.W.noTabs (K w.params) = true) (hC : ∀ w : World, ∀ Q ∈ [Pt], ∃ c, PySem.W.codeHdIn (K w.params) c Q = true)
    (F : ∀ (w : World) (mg : Str → Option Value) (fa : Addr) (h : Heap), (K w.params).In h → h.Ns mainGlobals mg → mg d.name = some (.ref fa) →
      ∃ fd : FuncData, (∀ (s : Shared) (u : Value), BindsTo s fd ⟨[u], []⟩ [("_law_script", u)]) ∧ ∀ base : Heap, (K w.params).In base → base.Ns mainGlobals mg → BM mg base → FnOk l.prog w (K w.params) mg base CX0 7 fa fd ["_law_script"] (spLaw (K w.params) Pt)) :
    PySem.W.WalkO q loose XP YP l.row.toRowW d [] (fun f vs => PySem.call f vs) :=
  walk_ofT (n := 63) (k := 7) (x := "_law_script") (ts := [Pt]) (sp := fun K => spLaw K Pt) hn (by decide) hdf ⟨rfl, by decide, by decide⟩ hY hY2 hKn hC F
    (fun K H a ns hl hT hS => ⟨a, ns, rfl, hS, hl, .inl (hT Pt (.head _)), fun _ => rfl⟩)
end My
set_option Elab.async false
open PySem PySem.W PyProof.Rows
def PySem.W.Fast.tw89996568647902045 : Unit := ()
def PySem.W.Fast.tw12419397505158410495 : Unit := ()
def PySem.W.Fast.tw5514851642788386853 : Unit := ()
def PySem.W.Fast.tw6932420676934144888 : Unit := ()
def PySem.W.Fast.tw10693448999633646062 : Unit := ()
def PySem.W.Fast.tw5789612716225299648 : Unit := ()
def PySem.W.Fast.tw2306170941672238710 : Unit := ()
def PySem.W.Fast.tw3020062188621815379 : Unit := ()
def PySem.W.Fast.tw4189075146009150545 : Unit := ()
def PySem.W.Fast.tw5882340119166320474 : Unit := ()
def PySem.W.Fast.tw12499108634807740615 : Unit := ()
def PySem.W.Fast.tw10748892095537541862 : Unit := ()
def PySem.W.Fast.tw3930067374032682909 : Unit := ()
def PySem.W.Fast.tw4321118000717761279 : Unit := ()
def PySem.W.Fast.tw3514565518553408940 : Unit := ()
def PySem.W.Fast.tw15646641819135580026 : Unit := ()
def PySem.W.Fast.tw17422595719948223801 : Unit := ()
def PySem.W.Fast.tw13880827921180256247 : Unit := ()
def PySem.W.Fast.tw836188264313256106 : Unit := ()
def PySem.W.Fast.tw10455796991627048125 : Unit := ()
def PySem.W.Fast.tw17816473374289153470 : Unit := ()
def PySem.W.Fast.tw10887857204041668541 : Unit := ()
def PySem.W.Fast.tw15553691093480791539 : Unit := ()
def PySem.W.Fast.tw14386562408480885704 : Unit := ()
def PySem.W.Fast.tw2061396491475014801 : Unit := ()
def PySem.W.Fast.tw5129758537881931163 : Unit := ()
def PySem.W.Fast.tw18373316898908789430 : Unit := ()
def PySem.W.Fast.tw16151745217706141658 : Unit := ()
def PySem.W.Fast.tw11706960730093680730 : Unit := ()
def PySem.W.Fast.tw9999231627759369704 : Unit := ()
def PySem.W.Fast.tw5932000438230768696 : Unit := ()
def PySem.W.Fast.tw2600336742521761884 : Unit := ()
def PySem.W.Fast.tw17176728493241791847 : Unit := ()
def PySem.W.Fast.tw9627670245578040943 : Unit := ()
def PySem.W.Fast.tw16309531223124270551 : Unit := ()
def PySem.W.Fast.tw5688557524662467510 : Unit := ()
def PySem.W.Fast.tw5224136174320861519 : Unit := ()
set_option maxRecDepth 100000 in
set_option maxHeartbeats 0 in
theorem PySem.Challenge.cw_tintties_k61_bars_holds : PySem.Challenge.rw_tintties_k61_bars.Holds := by
  w_on; o_law; k_head; (case hw => w_witness2)
  k_fill
  refine My.walk (l := PySem.Challenge.rw_tintties_k61_bars) rfl rfl (fun w h Y => PySem.W.km_in_of Y) (fun w h Y => PySem.W.km_tabs_of Y) ?n ?c ?F
  case n => intro w; kernel_rfl
  case c =>
    intro w Q hQ
    simp only [List.mem_cons, List.not_mem_nil, or_false] at hQ
    rcases hQ with rfl
    all_goals (refine My.hd_any ?_; kernel_rfl)
  case F =>
    intro w mg fa h KX G hmg
    refine' My.all_mk KX G hmg ?a1 ?l1 ?c1p ?k1 ?a2 ?l2 ?c2p ?k2 ?a3 ?l3 ?c3p ?k3 ?a4 ?l4 ?c4p ?k4 ?a5 ?l5 ?c5p ?k5 ?a6 ?l6 ?c6p ?k6 ?a7 ?l7 ?c7p ?k7 ?a8 ?l8 ?c8p ?k8 ?a9 ?l9 ?c9p ?k9 ?a10 ?l10 ?c10p ?k10 ?a11 ?l11 ?c11p ?k11 ?a12 ?l12 ?c12p ?k12 ?a13 ?l13 ?c13p ?k13 ?a14 ?l14 ?c14p ?k14 ?a15 ?l15 ?c15p ?k15 ?a16 ?l16 ?c16p ?k16 ?a17 ?l17 ?c17p ?k17 ?a18 ?l18 ?c18p ?k18 ?a19 ?l19 ?c19p ?k19 ?hC11 ?zA ?aTF ?aTE ?aM1 ?aM2 ?aM3 ?hCxc ?saTF ?kpTF ?inTF ?ifTF ?lI ?cIp ?kI ?neTF ?xg1 ?xg2 ?xg3 ?hCx4 ?hCx5 ?xg6 ?xg7 ?xg8 ?hCkc ?hCx9 ?hCke ?hCkv ?hCkm ?zV ?z1 ?z2 ?z3 ?z4 ?z5 ?z6 ?z7 ?z8 ?z9 ?z10 ?z11 ?z12 ?z13 ?z14
    (case a1 => k_is); (case l1 => k_is); (case c1p => k_is); (case k1 => k_is)
    (case a2 => k_is); (case l2 => k_is); (case c2p => k_is); (case k2 => k_is)
    (case a3 => k_is); (case l3 => k_is); (case c3p => k_is); (case k3 => k_is)
    (case a4 => k_is); (case l4 => k_is); (case c4p => k_is); (case k4 => k_is)
    (case a5 => k_is); (case l5 => k_is); (case c5p => k_is); (case k5 => k_is)
    (case a6 => k_is); (case l6 => k_is); (case c6p => k_is); (case k6 => k_is)
    (case a7 => k_is); (case l7 => k_is); (case c7p => k_is); (case k7 => k_is)
    (case a8 => k_is); (case l8 => k_is); (case c8p => k_is); (case k8 => k_is)
    (case a9 => k_is); (case l9 => k_is); (case c9p => k_is); (case k9 => k_is)
    (case a10 => k_is); (case l10 => k_is); (case c10p => k_is); (case k10 => k_is)
    (case a11 => k_is); (case l11 => k_is); (case c11p => k_is); (case k11 => k_is)
    (case a12 => k_is); (case l12 => k_is); (case c12p => k_is); (case k12 => k_is)
    (case a13 => k_is); (case l13 => k_is); (case c13p => k_is); (case k13 => k_is)
    (case a14 => k_is); (case l14 => k_is); (case c14p => k_is); (case k14 => k_is)
    (case a15 => k_is); (case l15 => k_is); (case c15p => k_is); (case k15 => k_is)
    (case a16 => k_is); (case l16 => k_is); (case c16p => k_is); (case k16 => k_is)
    (case a17 => k_is); (case l17 => k_is); (case c17p => k_is); (case k17 => k_is)
    (case a18 => k_is); (case l18 => k_is); (case c18p => k_is); (case k18 => k_is)
    (case a19 => k_is); (case l19 => k_is); (case c19p => k_is); (case k19 => k_is)
    (case hC11 => kernel_rfl); (case zA => k_is); (case aTF => k_is); (case aTE => k_is)
    (case aM1 => k_is); (case aM2 => k_is); (case aM3 => k_is); (case hCxc => kernel_rfl)
    (case saTF => k_is); (case kpTF => k_is); (case inTF => k_is); (case ifTF => k_is)
    (case lI => k_is); (case cIp => k_is); (case kI => k_is); (case neTF => k_is)
    (case xg1 => k_is); (case xg2 => k_is); (case xg3 => k_is); (case hCx4 => kernel_rfl)
    (case hCx5 => kernel_rfl); (case xg6 => k_is); (case xg7 => k_is); (case xg8 => k_is)
    (case hCkc => kernel_rfl); (case hCx9 => kernel_rfl); (case hCke => kernel_rfl); (case hCkv => kernel_rfl)
    (case hCkm => kernel_rfl); (case zV => k_is); (case z1 => k_is); (case z2 => k_is)
    (case z3 => k_is); (case z4 => k_is); (case z5 => k_is); (case z6 => k_is)
    (case z7 => k_is); (case z8 => k_is); (case z9 => k_is); (case z10 => k_is)
    (case z11 => k_is); (case z12 => k_is); (case z13 => k_is); (case z14 => k_is)
#print axioms PySem.Challenge.cw_tintties_k61_bars_holds
