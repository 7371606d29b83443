import PyProof.Rows.All
import Wide.All
import OpenK.AllK
import Wide.FinOn
import Lean
import PyProof.EqAt
import PyProof.EqKinds
import PyProof.TupleCall
import PySem.SetTable
import PySem.SetOps
import PyProof.Rows.SetFrom
import PyProof.NeKinds
import PyProof.Rows.StrInSeq3
import PyProof.AttrMissHeap
import PyProof.Rows.SeqMore2
import PySem.Challenge.RW_tintties_k63_searches_by_rule
set_option Elab.async false
set_option linter.all false
set_option maxRecDepth 100000
namespace L2
open PySem PySem.Spec PyProof.Rows
abbrev Key := Sum Int Str
def keyIs : Key → Value → Bool
  | .inl k, v => Value.isInt k v
  | .inr x, v => Value.isStrOf x v
def keyH (w : World) : Key → Int
  | .inl k => hashInt k
  | .inr x => hashStr w x
theorem keyIs_shape : ∀ {k : Key} {v : Value}, keyIs k v = true → (∃ i t, k = Sum.inl i ∧ v = Value.int i t) ∨ (∃ x t, k = Sum.inr x ∧ v = Value.str x t)
  | .inl i, v, h => by
    obtain ⟨t, e⟩ := Value.isInt_shape (k := i) (v := v) h
    exact .inl ⟨i, t, rfl, e⟩
  | .inr x, v, h => by
    obtain ⟨t, e⟩ := Value.isStrOf_shape (x := x) (v := v) h
    exact .inr ⟨x, t, rfl, e⟩
theorem keyIs_int (i : Int) (t : Tok) : keyIs (.inl i) (.int i t) = true := by simp [keyIs, Value.isInt]
theorem keyIs_str (x : Str) (t : Tok) : keyIs (.inr x) (.str x t) = true := by simp [keyIs, Value.isStrOf]
theorem key_ll (a b : Int) : decide ((Sum.inl a : Key) = Sum.inl b) = (a == b) := by
  by_cases e : a = b
  · subst e; simp
  · have h : ¬ (Sum.inl a : Key) = Sum.inl b := fun q => e (Sum.inl.inj q)
    rw [decide_eq_false h]
    exact (beq_eq_false_iff_ne.mpr e).symm
theorem key_rr (a b : Str) : decide ((Sum.inr a : Key) = Sum.inr b) = decide (a = b) := by
  by_cases e : a = b
  · subst e; simp
  · have h : ¬ (Sum.inr a : Key) = Sum.inr b := fun q => e (Sum.inr.inj q)
    rw [decide_eq_false h, decide_eq_false e]
theorem key_lr (a : Int) (b : Str) : decide ((Sum.inl a : Key) = Sum.inr b) = false := decide_eq_false (fun q => nomatch q)
theorem key_rl (a : Str) (b : Int) : decide ((Sum.inr a : Key) = Sum.inl b) = false := decide_eq_false (fun q => nomatch q)
def mixKind (prog : Program) (w : World) : PySem.KeyKind prog w Key where
  is := keyIs
  hash := keyH w
  inj := fun v a b ha hb => by
    rcases keyIs_shape ha with ⟨i, t, rfl, rfl⟩ | ⟨x, t, rfl, rfl⟩
    · rcases keyIs_shape hb with ⟨j, u, rfl, e⟩ | ⟨y, u, rfl, e⟩
      · injection e with e1 _; rw [e1]
      · exact nomatch e
    · rcases keyIs_shape hb with ⟨j, u, rfl, e⟩ | ⟨y, u, rfl, e⟩
      · exact nomatch e
      · injection e with e1 _; rw [e1]
  byValue := fun k v h => by
    rcases keyIs_shape h with ⟨i, t, rfl, rfl⟩ | ⟨x, t, rfl, rfl⟩ <;> rfl
  pyHash := fun hv h => by
    rcases keyIs_shape hv with ⟨i, t, rfl, rfl⟩ | ⟨x, t, rfl, rfl⟩
    · exact wpAny_pyHash_int h
    · exact wpAny_pyHash_str h
  eqBool := fun hu hv h => by
    rcases keyIs_shape hu with ⟨i, t, rfl, rfl⟩ | ⟨x, t, rfl, rfl⟩
    · rcases keyIs_shape hv with ⟨j, u, rfl, rfl⟩ | ⟨y, u, rfl, rfl⟩
      · rw [key_ll] at h; exact wpAny_eqBool_int h
      · rw [key_lr] at h; exact SeqAt.EqAt.int_str i t y u _ _ _ _ h
    · rcases keyIs_shape hv with ⟨j, u, rfl, rfl⟩ | ⟨y, u, rfl, rfl⟩
      · rw [key_rl] at h; exact SeqAt.EqAt.str_int x t j u _ _ _ _ h
      · rw [key_rr] at h; exact wpAny_eqBool_str h
  «strs» := fun k x t v h => by
    rcases keyIs_shape h with ⟨i, u, rfl, e⟩ | ⟨y, u, rfl, e⟩
    · exact nomatch e
    · injection e with e1 _
      subst e1
      cases v <;> rfl
theorem mixKind_int (prog : Program) (w : World) (i : Int) (t : Tok) : (mixKind prog w).is (.inl i) (.int i t) = true := keyIs_int i t
theorem mixKind_str (prog : Program) (w : World) (x : Str) (t : Tok) : (mixKind prog w).is (.inr x) (.str x t) = true := keyIs_str x t
end L2
namespace L2
open PySem PySem.Spec PyProof.Rows
inductive V where
  | non | bl (b : Bool) | int (i : Int) | str (x : Str) | byt (b : Array UInt8) | flt (b : UInt64) | ref (a : Addr) | ty (n : String)
  deriving DecidableEq
def RelV : V → Value → Prop
  | .non, u => u = Value.none
  | .bl b, u => u = Value.bool b
  | .int i, u => ∃ t, u = Value.int i t
  | .str x, u => ∃ t, u = Value.str x t
  | .byt b, u => ∃ t, u = Value.bytes b t
  | .flt b, u => ∃ t, u = Value.float b t
  | .ref a, u => u = Value.ref a
  | .ty n, u => u = Value.type n
abbrev Vals : List V → List Value → Prop := Paired RelV
theorem Vals.length {xs : List V} {us : List Value} (r : Vals xs us) : xs.length = us.length := Paired.length r
theorem Vals.get : ∀ {xs : List V} {us : List Value} {i : Nat} {x : V}, Vals xs us → xs[i]? = some x → ∃ u, us[i]? = some u ∧ RelV x u
  | _, _, _, _, .nil, e => by simp at e
  | _, _, 0, _, .cons r _, e => by simp at e; subst e; exact ⟨_, rfl, r⟩
  | _, _, i + 1, x, .cons _ t, e => by
    obtain ⟨u, h1, h2⟩ := Vals.get (i := i) (x := x) t (by simpa using e)
    exact ⟨u, by simpa using h1, h2⟩
theorem Vals.set {x : V} {u : Value} (r : RelV x u) : ∀ {xs : List V} {us : List Value} (i : Nat), Vals xs us → Vals (xs.set i x) (us.set i u)
  | _, _, _, .nil => .nil
  | _, _, 0, .cons _ t => .cons r t
  | _, _, i + 1, .cons q t => .cons q (Vals.set r i t)
theorem Vals.append : ∀ {xs ys : List V} {us ws : List Value}, Vals xs us → Vals ys ws → Vals (xs ++ ys) (us ++ ws)
  | _, _, _, _, .nil, s => s
  | _, _, _, _, .cons r t, s => .cons r (Vals.append t s)
theorem Vals.take : ∀ {xs : List V} {us : List Value} (n : Nat), Vals xs us → Vals (xs.take n) (us.take n)
  | _, _, 0, _ => .nil
  | _, _, _ + 1, .nil => .nil
  | _, _, n + 1, .cons r t => .cons r (Vals.take n t)
theorem Vals.drop : ∀ {xs : List V} {us : List Value} (n : Nat), Vals xs us → Vals (xs.drop n) (us.drop n)
  | _, _, 0, r => r
  | _, _, _ + 1, .nil => .nil
  | _, _, n + 1, .cons _ t => Vals.drop n t
def RelO : Option V → Option Value → Prop
  | some v, some u => RelV v u
  | none, none => True
  | _, _ => False
def KV {κ : Type} : List (κ × V) → List (κ × Value) → Prop := Paired fun (p : κ × V) (q : κ × Value) => p.1 = q.1 ∧ RelV p.2 q.2
def kV : Key → V
  | .inl i => .int i
  | .inr x => .str x
inductive HO where
  | lst (xs : List V)
  | tup (xs : List V)
  | dK (kvs : List (Key × V)) | dT (kvs : List (List Key × V))
  | set (S : Int → Bool) (n : Nat)
  | ins (C dx : Addr) (fs : List (Str × V))
  | own (x : Addr)
  | xd (fs : List (Str × V))
  | met (f x : Addr)
  | rng (lo hi : Int)
  | frz (o : Obj) (u : HO)
  | tbl (ps : Array Value)
  | ext (φ : Heap → Prop)
abbrev Hp := Addr → Option HO
def upd (H : Hp) (a : Addr) (o : HO) : Hp := fun b => if b = a then some o else H b
theorem upd_same {H : Hp} {a : Addr} {o : HO} : upd H a o a = some o := by unfold upd; rw [if_pos rfl]
theorem upd_ne {H : Hp} {a b : Addr} {o : HO} (h : b ≠ a) : upd H a o b = H b := by unfold upd; rw [if_neg h]
theorem upd_upd {H : Hp} {a : Addr} {o u : HO} : upd (upd H a o) a u = upd H a u := by
  funext b; unfold upd; split <;> rfl
theorem ne_of {H : Hp} {a b : Addr} {o u : HO} (h : H a = some o) (h' : H b = some u) (d : o ≠ u) : a ≠ b := by
  intro e; subst e; rw [h] at h'; exact d (Option.some.inj h')
theorem ne_of_none {H : Hp} {a b : Addr} {o : HO} (h : H a = some o) (h' : H b = none) : a ≠ b := by
  intro e; subst e; rw [h] at h'; cases h'
section
variable (P : Program) (w : World)
def ObjOk (H : Hp) (h : Heap) (a : Addr) : HO → Prop
  | .lst xs => xs.length ≤ sizeLine ∧ ∃ (its : List Value) (n : Nat), Vals xs its ∧ h.get? a = some { cls := .type "list", data := .seq its.toArray n }
  | .tup xs => xs.length ≤ sizeLine ∧ ∃ its : List Value, Vals xs its ∧ IsTup h a its.toArray
  | .dK kvs => kvs.length ≤ sizeLine ∧ (a == sysModules) = false ∧ ∃ vs, KV kvs vs ∧ h.DictOf (mixKind P w) a vs
  | .dT kvs => kvs.length ≤ sizeLine ∧ (a == sysModules) = false ∧ ∃ xs : List (List Key × Addr × Value),
      Paired (fun (p : List Key × V) (q : List Key × Addr × Value) => p.1 = q.1 ∧ H q.2.1 = some (.tup (p.1.map kV)) ∧ RelV p.2 q.2.2) kvs xs ∧
      ∃ o es ep, h.get? a = some o ∧ o.ExactDict ∧ o.data = .dict es ep ∧ es.toList = xs.map (entryOfKey (tupleKind (mixKind P w))) ∧ (xs.map (·.1)).Nodup
  | .set S n => h.SetOf (intKind P w) a S n
  | .ins C dx fs => H dx = some (.own a) ∧ fs.length ≤ 1000 ∧ dx ≠ a ∧ h.get? a = some (PySem.W.instObj C dx) ∧
      ∃ mA, h.Ns1 dx mA ∧ (∀ f, RelO (fs.lookup f) (mA f)) ∧ PySem.Within mA (fs.map (·.1))
  | .own _ => ∃ o, h.get? a = some o
  | .xd fs => ∃ mA, h.Ns1 a mA ∧ ∀ f, RelO (fs.lookup f) (mA f)
  | .rng lo hi => ∃ t u v, h.get? a = some { cls := .type "range", data := .fields #[.int lo t, .int hi u, .int 1 v] }
  | .frz o u => h.get? a = some o ∧ ObjOk H h a u
  | .tbl ps => h.get? a = some { cls := .none, data := .fields ps }
  | .met f x => h.get? a = some (PySem.W.methodObj (.ref f) (.ref x))
  | .ext φ => φ h ∧ (∃ o, h.get? a = some o) ∧ ∀ h1 h2 : Heap, φ h1 → (∀ o, h1.get? a = some o → h2.get? a = some o) → φ h2
def HOk (H : Hp) (h : Heap) : Prop := ∀ a o, H a = some o → ObjOk P w H h a o
end
section
variable {P : Program} {w : World} {H H' : Hp} {h h' : Heap} {a : Addr} {o : HO}
theorem ObjOk.lt (x : ObjOk P w H h a o) : a < h.objs.size := by
  cases o with
  | lst xs => obtain ⟨_, _, _, _, e⟩ := x; exact Heap.lt_size e
  | tup xs => obtain ⟨_, _, _, p⟩ := x; exact p.lt
  | dK kvs => obtain ⟨_, _, _, _, o, _, _, e, _⟩ := x; exact Heap.lt_size e
  | dT kvs => obtain ⟨_, _, _, _, o, _, _, e, _⟩ := x; exact Heap.lt_size e
  | set S n => obtain ⟨o, _, _, _, e, _⟩ := x; exact Heap.lt_size e
  | ins C dx fs => obtain ⟨_, _, _, e, _⟩ := x; exact Heap.lt_size e
  | own y => obtain ⟨_, e⟩ := x; exact Heap.lt_size e
  | xd fs => obtain ⟨_, ⟨_, _, _, e, _⟩, _⟩ := x; exact Heap.lt_size e
  | rng lo hi => obtain ⟨_, _, _, e⟩ := x; exact Heap.lt_size e
  | frz ob u => obtain ⟨e, _⟩ := x; exact Heap.lt_size e
  | tbl ps => exact Heap.lt_size (show h.get? a = some _ from x)
  | met f y => exact Heap.lt_size (show h.get? a = some _ from x)
  | ext φ => obtain ⟨_, ⟨_, e⟩, _⟩ := x; exact Heap.lt_size e
theorem Paired.mapP {α β : Type} {F G : α → β → Prop} : ∀ {l₁ : List α} {l₂ : List β}, Paired F l₁ l₂ → (∀ a b, F a b → G a b) → Paired G l₁ l₂
  | _, _, .nil, _ => .nil
  | _, _, .cons r t, f => .cons (f _ _ r) (Paired.mapP t f)
theorem ObjOk.stay (x : ObjOk P w H h a o) (k : ∀ b u, (b = a ∨ H b = some (.own a)) → h.get? b = some u → h'.get? b = some u)
    (ho : ∀ b, H b = some (.own a) → H' b = some (.own a)) (ht : ∀ b xs, H b = some (.tup xs) → H' b = some (.tup xs)) : ObjOk P w H' h' a o := by
  induction o with
  | lst xs => obtain ⟨z, its, n, r, e⟩ := x; exact ⟨z, its, n, r, k _ _ (.inl rfl) e⟩
  | tup xs => obtain ⟨z, its, r, ob, e, c⟩ := x; exact ⟨z, its, r, ob, k _ _ (.inl rfl) e, c⟩
  | dK kvs => obtain ⟨z, y, vs, r, ob, es, ep, e, c⟩ := x; exact ⟨z, y, vs, r, ob, es, ep, k _ _ (.inl rfl) e, c⟩
  | dT kvs =>
    obtain ⟨z, y, xs, r, ob, es, ep, e, c⟩ := x
    exact ⟨z, y, xs, Paired.mapP r fun p q z => ⟨z.1, ht _ _ z.2.1, z.2.2⟩, ob, es, ep, k _ _ (.inl rfl) e, c⟩
  | set S n => obtain ⟨ob, es, ep, t, e, c⟩ := x; exact ⟨ob, es, ep, t, k _ _ (.inl rfl) e, c⟩
  | ins C dx fs =>
    obtain ⟨d, z, ne, e, mA, ⟨od, es, ep, e2, c⟩, r⟩ := x
    exact ⟨ho _ d, z, ne, k _ _ (.inl rfl) e, mA, ⟨od, es, ep, k _ _ (.inr d) e2, c⟩, r⟩
  | own y => obtain ⟨ob, e⟩ := x; exact ⟨ob, k _ _ (.inl rfl) e⟩
  | xd fs => obtain ⟨mA, ⟨od, es, ep, e, c⟩, r⟩ := x; exact ⟨mA, ⟨od, es, ep, k _ _ (.inl rfl) e, c⟩, r⟩
  | rng lo hi => obtain ⟨t, u, v, e⟩ := x; exact ⟨t, u, v, k _ _ (.inl rfl) e⟩
  | frz ob u ih => obtain ⟨e, q⟩ := x; exact ⟨k _ _ (.inl rfl) e, ih q⟩
  | tbl ps =>
    have e : h.get? a = some { cls := .none, data := .fields ps } := x
    show h'.get? a = some { cls := .none, data := .fields ps }
    exact k a _ (.inl rfl) e
  | met f y =>
    have e : h.get? a = some (PySem.W.methodObj (.ref f) (.ref y)) := x
    show h'.get? a = some (PySem.W.methodObj (.ref f) (.ref y))
    exact k a _ (.inl rfl) e
  | ext φ => obtain ⟨p, ⟨o, e⟩, st⟩ := x; exact ⟨st _ _ p fun o q => k _ _ (.inl rfl) q, ⟨o, k _ _ (.inl rfl) e⟩, st⟩
theorem HOk.lt (x : HOk P w H h) (e : H a = some o) : a < h.objs.size := (x a o e).lt
theorem HOk.fresh (x : HOk P w H h) (e : h.objs.size ≤ a) : H a = none := by
  cases q : H a with
  | none => rfl
  | some u => exact absurd (Nat.lt_of_lt_of_le (x.lt q) e) (Nat.lt_irrefl _)
theorem HOk.kept (x : HOk P w H h) (k : ∀ b u, h.get? b = some u → h'.get? b = some u) : HOk P w H h' := fun a o e =>
  (x a o e).stay (fun b u _ q => k b u q) (fun _ q => q) fun _ _ q => q
theorem HOk.laid (x : HOk P w H h) (k : ∀ b u, h.get? b = some u → h'.get? b = some u) (hp : h.objs.size ≤ a) (new : ObjOk P w (upd H a o) h' a o) : HOk P w (upd H a o) h' := fun b u e => by
  have hn := x.fresh hp
  by_cases hb : b = a
  · subst hb; rw [upd_same] at e; cases e; exact new
  · rw [upd_ne hb] at e
    exact (x b u e).stay (fun c v _ q => k c v q) (fun c q => by rw [upd_ne (ne_of_none q hn)]; exact q) fun c xs q => by rw [upd_ne (ne_of_none q hn)]; exact q
end
def Rd (H : Hp) (a : Addr) (u : HO) : Prop := H a = some u ∨ ∃ o, H a = some (.frz o u)
theorem Rd.of {H : Hp} {a : Addr} {u : HO} (h : H a = some u) : Rd H a u := .inl h
theorem Rd.ok {P : Program} {w : World} {H : Hp} {h : Heap} {a : Addr} {u : HO} (r : Rd H a u) (x : HOk P w H h) : ObjOk P w H h a u := by
  rcases r with r | ⟨o, r⟩
  · exact x a u r
  · obtain ⟨_, q⟩ := x a _ r
    exact q
def Mut : Option HO → Prop
  | some (.lst _) => True
  | some (.dK _) => True
  | some (.dT _) => True
  | some (.set _ _) => True
  | some (.ins _ _ _) => True
  | some (.ext _) => True
  | _ => False
section
variable {P : Program} {w : World} {H : Hp} {h h' : Heap} {x e : Addr} {o' : HO}
theorem HOk.write (ok : HOk P w H h) (mu : Mut (H x)) (he : e = x ∨ H e = some (.own x)) (k : ∀ b u, b ≠ e → h.get? b = some u → h'.get? b = some u) (heo : ∃ u, h'.get? e = some u)
    (new : ObjOk P w (upd H x o') h' x o') : HOk P w (upd H x o') h' := fun b u q => by
  have nown : ∀ c y, H c = some (.own y) → c ≠ x := fun c y r z => by subst z; rw [r] at mu; exact mu
  have ntup : ∀ c xs, H c = some (.tup xs) → c ≠ x := fun c xs r z => by subst z; rw [r] at mu; exact mu
  by_cases hb : b = x
  · subst hb; rw [upd_same] at q; cases q; exact new
  · rw [upd_ne hb] at q
    by_cases hbe : b = e
    · have q' : H b = some (.own x) := by
        rcases he with z | z
        · exact absurd (hbe.trans z) hb
        · rw [hbe]; exact z
      rw [q] at q'; cases q'
      obtain ⟨v, hv⟩ := heo
      exact ⟨v, by rw [hbe]; exact hv⟩
    · refine (ok b u q).stay (fun c v hc r => k c v ?_ r) (fun c r => by rw [upd_ne (nown c b r)]; exact r) fun c xs r => by rw [upd_ne (ntup c xs r)]; exact r
      rcases hc with rfl | hc
      · exact hbe
      · rintro rfl
        rcases he with z | z
        · exact nown c b hc z
        · rw [hc] at z; cases z; exact hb rfl
end
structure Un (fs ex : List Addr) (H H' : Hp) (h h' : Heap) : Prop where
  keep : ∀ b o, h.get? b = some o → H b = none → b ∉ fs → b ∉ ex → h'.get? b = some o
  slot : ∀ b o, h.get? b = some o → H b = none → b ∈ fs → b ∉ ex → ∃ sl, h'.get? b = some { o with slots := sl }
  free : ∀ b o, h.get? b = some o → H b = none → b ∉ ex → H' b = none
  there : ∀ b o, h.get? b = some o → b ∉ ex → ∃ o', h'.get? b = some o'
  tups : ∀ b xs, H b = some (.tup xs) → H' b = some (.tup xs)
  frzs : ∀ b o u, H b = some (.frz o u) → H' b = some (.frz o u)
  tbls : ∀ b ps, H b = some (.tbl ps) → ∃ more, H' b = some (.tbl (ps ++ more))
section
variable {fs fs' ex ex' : List Addr} {H H1 H2 : Hp} {h h1 h2 h' : Heap} {a x e : Addr} {o : HO}
theorem Un.any (u : Un fs ex H H1 h h1) {b : Addr} {ob : Obj} (q : h.get? b = some ob) (n : H b = none) (hx : b ∉ ex) : ∃ sl, h1.get? b = some { ob with slots := sl } := by
  by_cases hb : b ∈ fs
  · exact u.slot b ob q n hb hx
  · exact ⟨ob.slots, u.keep b ob q n hb hx⟩
theorem Un.trans (a : Un fs ex H H1 h h1) (b : Un fs ex H1 H2 h1 h2) : Un fs ex H H2 h h2 where
  keep := fun c ob q n hc hx => b.keep c ob (a.keep c ob q n hc hx) (a.free c ob q n hx) hc hx
  slot := fun c ob q n hc hx => by
    obtain ⟨sl, e1⟩ := a.slot c ob q n hc hx
    obtain ⟨sl', e2⟩ := b.slot c _ e1 (a.free c ob q n hx) hc hx
    exact ⟨sl', e2⟩
  free := fun c ob q n hx => by
    obtain ⟨o', e1⟩ := a.there c ob q hx
    exact b.free c o' e1 (a.free c ob q n hx) hx
  there := fun c ob q hx => by
    obtain ⟨o', e1⟩ := a.there c ob q hx
    exact b.there c o' e1 hx
  tups := fun c xs q => b.tups c xs (a.tups c xs q)
  frzs := fun c ob xs q => b.frzs c ob xs (a.frzs c ob xs q)
  tbls := fun c ps q => by
    obtain ⟨m1, e1⟩ := a.tbls c ps q
    obtain ⟨m2, e2⟩ := b.tbls c _ e1
    exact ⟨m1 ++ m2, by rw [e2, Array.append_assoc]⟩
theorem Un.kept (k : ∀ b u, h.get? b = some u → h'.get? b = some u) : Un fs ex H H h h' :=
  ⟨fun b ob q _ _ _ => k b ob q, fun b ob q _ _ _ => ⟨ob.slots, k b ob q⟩, fun _ _ _ n _ => n, fun b ob q _ => ⟨ob, k b ob q⟩, fun _ _ q => q, fun _ _ _ q => q, fun _ ps q => ⟨#[], by rw [q]; simp⟩⟩
theorem Un.refl : Un fs ex H H h h := Un.kept fun _ _ q => q
theorem Un.laid (k : ∀ b u, h.get? b = some u → h'.get? b = some u) (hp : h.objs.size ≤ a) (hn : H a = none) : Un fs ex H (upd H a o) h h' where
  keep := fun b u q _ _ _ => k b u q
  slot := fun b u q _ _ _ => ⟨u.slots, k b u q⟩
  free := fun b u q n _ => by rw [upd_ne (Nat.ne_of_lt (Nat.lt_of_lt_of_le (Heap.lt_size q) hp))]; exact n
  there := fun b u q _ => ⟨u, k b u q⟩
  tups := fun b xs q => by rw [upd_ne (ne_of_none q hn)]; exact q
  frzs := fun b u xs q => by rw [upd_ne (ne_of_none q hn)]; exact q
  tbls := fun b ps q => ⟨#[], by rw [upd_ne (ne_of_none q hn), q]; simp⟩
theorem Un.write (mu : Mut (H x)) (he : e = x ∨ H e = some (.own x)) (k : ∀ b u, b ≠ e → h.get? b = some u → h'.get? b = some u) (heo : ∃ u, h'.get? e = some u) : Un fs ex H (upd H x o) h h' := by
  have hx : ∀ b, H b = none → b ≠ x := fun b n z => by subst z; rw [n] at mu; exact mu
  have hb : ∀ b, H b = none → b ≠ e := fun b n z => by
    subst z
    rcases he with r | r
    · exact hx b n r
    · rw [n] at r; cases r
  have hm : ∀ b u, H b = some u → ¬ Mut (some u) → b ≠ x := fun b u q nm z => by subst z; rw [q] at mu; exact nm mu
  refine ⟨fun b u q n _ _ => k b u (hb b n) q, fun b u q n _ _ => ⟨u.slots, k b u (hb b n) q⟩, fun b u q n _ => by rw [upd_ne (hx b n)]; exact n, fun b u q _ => ?_,
    fun b xs q => by rw [upd_ne (hm b _ q fun z => z)]; exact q, fun b u xs q => by rw [upd_ne (hm b _ q fun z => z)]; exact q, fun b ps q => ⟨#[], by rw [upd_ne (hm b _ q fun z => z), q]; simp⟩⟩
  by_cases hbe : b = e
  · subst hbe; exact heo
  · exact ⟨u, k b u hbe q⟩
theorem Un.mono (u : Un fs ex H H1 h h1) (hs : ∀ b ∈ fs, b ∈ fs') (hx : ∀ b ∈ ex, b ∈ ex') : Un fs' ex' H H1 h h1 :=
  ⟨fun b ob q n hb he => u.keep b ob q n (fun z => hb (hs b z)) fun z => he (hx b z), fun _ _ q n _ he => u.any q n fun z => he (hx _ z), fun b ob q n he => u.free b ob q n fun z => he (hx b z), fun b ob q he => u.there b ob q fun z => he (hx b z), u.tups, u.frzs, u.tbls⟩
end
def trk (h : Heap) (H : Hp) : List Addr := (List.range h.objs.size).filter fun a => (H a).isSome
def hidT (h : Heap) (H : Hp) : Heap := PySem.W.hideAll h (trk h H)
theorem hidT_size (h : Heap) (H : Hp) : (hidT h H).objs.size = h.objs.size := PySem.W.hideAll_size _ _
theorem hidT_get {h : Heap} {H : Hp} {b : Addr} {o : Obj} (e : h.get? b = some o) (n : H b = none) : (hidT h H).get? b = some o :=
  PySem.W.hideAll_get _ e fun hm => by
    have q : (H b).isSome = true := (List.mem_filter.mp hm).2
    rw [n] at q; simp at q
theorem of_hidT {h : Heap} {H : Hp} {b : Addr} {o : Obj} (e : (hidT h H).get? b = some o) : h.get? b = some o ∧ H b = none := by
  have e' : h.get? b = some o := PySem.W.of_hideAll (trk h H) e
  refine ⟨e', ?_⟩
  cases q : H b with
  | none => rfl
  | some x =>
    have hm : b ∈ trk h H := List.mem_filter.mpr ⟨List.mem_range.mpr (Heap.lt_size e'), by simp [q]⟩
    have z : (hidT h H).get? b = none := PySem.W.hideAll_none (trk h H) hm
    rw [z] at e; cases e
def allNews (g h : Heap) (L : Addr) : List (Addr × Obj) := (List.range h.objs.size).filterMap fun a => if a = L ∨ (g.get? a).isSome = true then none else (h.get? a).map fun o => (a, o)
def rest (g h : Heap) (L d : Addr) : List (Addr × Obj) := (allNews g h L).filter fun p => decide (p.1 ≠ d)
end L2
namespace L2
open PySem PySem.Spec PyProof.Rows
structure Mod (K : PySem.W.Frag) (mg : Str → Option Value) (base : Heap) : Prop where
  kin : K.In base
  glob : base.Ns mainGlobals mg
  blt : ∃ mb, base.Ns builtinsNs mb ∧ ∀ x : Str, x ≠ "__name__" → mb x = bootBuiltins x
  nolimit : base.NoLimit
structure Cx where
  prog : Program
  w : World
  K : PySem.W.Frag
  mg : Str → Option Value
  base : Heap
  A : Around
  N : List Str
  s₀ : Shared
  H₀ : Hp
  env : Env
  outer : List Env
  stack : List Env
  ex : List Addr
  fn : Str → Bool
  calm : Bool
  pn : List (Addr × Obj)
  xe : Value → Shared → Prop
def frs (l : List Env) : List Addr := l.filterMap (·.frame)
abbrev Cx.fs (X : Cx) : List Addr := frs X.outer
def Vis (sc : Scope) (x : Str) : Prop := sc.names.lookup x = some .local ∨ sc.names.lookup x = some .cell ∨ sc.names.lookup x = some .free
def Loc (sc : Scope) (x : Str) : Prop := sc.names.lookup x = some .local ∨ sc.names.lookup x = some .cell
def Look (env : Env) (h : Heap) (m : Str → Option Value) (x : Str) (u : Value) : Prop :=
  (env.kindOf x = some .local ∧ m x = some u) ∨ ((env.kindOf x = some .cell ∨ env.kindOf x = some .free) ∧ ∃ c, env.cells.lookup x = some c ∧ h.IsCell c (some u))
structure Cx.Ok (X : Cx) : Prop where
  mod : Mod X.K X.mg X.base
  kind : X.env.scope.kind = .function
  glob : X.env.globals = mainGlobals
  blt : X.env.builtins = builtinsNs
  above : X.s₀.heap.objs.size ≤ X.env.locals
  inj : ∀ x y c, X.env.cells.lookup x = some c → X.env.cells.lookup y = some c → x = y
  has : ∀ x, (X.env.kindOf x = some .cell ∨ X.env.kindOf x = some .free) → ∃ c, X.env.cells.lookup x = some c
  cab : ∀ x c, X.fn x = true → X.env.cells.lookup x = some c → X.s₀.heap.objs.size ≤ c
  hd : X.calm = true → X.A.handled = none
  frames : X.A.frames = some X.stack
  stk : X.stack = X.outer ∨ (X.stack = X.env :: X.outer ∧ X.env.frame = some X.env.locals)
  exf : ∀ b ∈ X.ex, b ≠ X.env.locals ∧ ∀ x c, X.env.cells.lookup x = some c → c ≠ b
  bs : ∀ b o, X.base.get? b = some o → X.s₀.heap.get? b = some o ∧ X.H₀ b = none
  bsz : X.base.objs.size ≤ X.s₀.heap.objs.size
  noex : ∀ b o, X.base.get? b = some o → b ∉ X.ex
  exfs : ∀ b ∈ X.ex, b ∉ X.fs
  funs : X.s₀.heap.FunFrames X.base X.outer
  frf : ∀ b ∈ X.fs, X.H₀ b = none
structure Inv (X : Cx) (pins : List (Addr × Obj)) (σ : List (Option V)) (H : Hp) (s : Shared) : Prop where
  ok : X.Ok
  os : s.os = X.s₀.os
  bare : AllBare s.gens
  base : Un X.fs X.ex X.H₀ H X.s₀.heap s.heap
  loc : ∃ m, s.heap.Ns X.env.locals m ∧ ∀ (i : Nat) (x : Str) (v : V), X.N[i]? = some x → σ[i]? = some (some v) → Vis X.env.scope x → ∃ u, RelV v u ∧ Look X.env s.heap m x u
  cell : ∀ x c, X.env.cells.lookup x = some c → ∃ v, s.heap.IsCell c v
  free : H X.env.locals = none
  freeC : ∀ x c, X.env.cells.lookup x = some c → H c = none
  pin : ∀ p ∈ X.pn ++ pins, s.heap.get? p.1 = some p.2 ∧ H p.1 = none ∧ p.1 ≠ X.env.locals ∧ p.1 ∉ X.fs ∧ ∀ v, p.2.data ≠ .cell v
  hok : HOk X.prog X.w H s.heap
  len : σ.length = X.N.length
section
variable {X : Cx} {pins : List (Addr × Obj)} {σ : List (Option V)} {H H' : Hp} {s : Shared} {h' : Heap}
theorem Cx.Ok.nofr (ok : X.Ok) {b : Addr} {o : Obj} (e : X.base.get? b = some o) : b ∉ X.fs := fun hb => by
  have := (ok.funs.mem hb).1
  rw [e] at this; cases this
theorem Inv.bs (I : Inv X pins σ H s) : ∀ b o, X.base.get? b = some o → s.heap.get? b = some o ∧ H b = none := fun b o e =>
  ⟨I.base.keep b o (I.ok.bs b o e).1 (I.ok.bs b o e).2 (I.ok.nofr e) (I.ok.noex b o e), I.base.free b o (I.ok.bs b o e).1 (I.ok.bs b o e).2 (I.ok.noex b o e)⟩
theorem Inv.bk (I : Inv X pins σ H s) : ∀ b o, X.base.get? b = some o → s.heap.get? b = some o := fun b o e => (I.bs b o e).1
theorem Inv.mod (I : Inv X pins σ H s) : Mod X.K X.mg X.base := I.ok.mod
theorem Inv.kIn (I : Inv X pins σ H s) : X.K.In s.heap := I.ok.mod.kin.keeps I.bk
theorem Inv.nolimit (I : Inv X pins σ H s) : s.heap.NoLimit := I.ok.mod.nolimit.keeps I.bk
theorem Inv.fr (I : Inv X pins σ H s) : ∃ m, Fr X.base X.env.locals s.heap m :=
  let ⟨m, hn, _⟩ := I.loc
  ⟨m, hn, I.bk, Nat.le_trans I.ok.bsz I.ok.above⟩
theorem Inv.lt (I : Inv X pins σ H s) : X.env.locals < s.heap.objs.size := let ⟨_, hn, _⟩ := I.loc; hn.lt
theorem Inv.sz (I : Inv X pins σ H s) : X.s₀.heap.objs.size ≤ s.heap.objs.size := Nat.le_trans I.ok.above (Nat.le_of_lt I.lt)
theorem Inv.nofs (I : Inv X pins σ H s) {a : Addr} (h : s.heap.objs.size ≤ a) : a ∉ X.fs := fun hb => by
  obtain ⟨_, o, ho, _⟩ := I.ok.funs.mem hb
  exact absurd (Nat.lt_of_lt_of_le (Heap.lt_size ho) (Nat.le_trans I.sz h)) (Nat.lt_irrefl _)
theorem Inv.cne (I : Inv X pins σ H s) : ∀ x c, X.env.cells.lookup x = some c → c ≠ X.env.locals := fun x c e z => by
  obtain ⟨v, o, ho, hd⟩ := I.cell x c e
  obtain ⟨m, ⟨o', es, ep, ho', hd', _⟩, _⟩ := I.loc
  rw [z, ho'] at ho; cases ho; rw [hd'] at hd; cases hd
theorem Inv.funs (I : Inv X pins σ H s) : s.heap.FunFrames X.base X.outer := by
  have all : ∀ (l : List Env), (∀ b ∈ frs l, b ∈ X.fs) → X.s₀.heap.FunFrames X.base l → s.heap.FunFrames X.base l := by
    intro l
    induction l with
    | nil => intro _ _; trivial
    | cons env r ih =>
      intro hs hl
      obtain ⟨hk, ⟨L, o, hf, hn, ho, hd⟩, hr⟩ := hl
      have hL : L ∈ X.fs := hs L (by unfold frs; rw [List.filterMap_cons, hf]; exact List.mem_cons_self)
      obtain ⟨sl, e⟩ := I.base.slot L o ho (I.ok.frf L hL) hL fun z => I.ok.exfs L z hL
      exact ⟨hk, ⟨L, _, hf, hn, e, hd⟩, ih (fun b hb => hs b (by unfold frs; rw [List.filterMap_cons, hf]; exact List.mem_cons_of_mem _ hb)) hr⟩
  exact all X.outer (fun _ hb => hb) I.ok.funs
theorem Inv.stack (I : Inv X pins σ H s) : s.heap.FunFrames X.base X.stack := by
  rcases I.ok.stk with e | ⟨e, hf⟩
  · rw [e]; exact I.funs
  · rw [e]
    obtain ⟨m, hn, _⟩ := I.loc
    refine .cons (by rw [I.ok.kind]; decide) hf hn ?_ I.funs
    exact Heap.get?_none_of_le (Nat.le_trans I.ok.bsz I.ok.above)
theorem Inv.stkSub (I : Inv X pins σ H s) : ∀ b ∈ frs X.stack, b ∈ X.env.locals :: X.fs := fun b hb => by
  rcases I.ok.stk with e | ⟨e, hf⟩
  · rw [e] at hb; exact List.mem_cons_of_mem _ hb
  · rw [e] at hb
    unfold frs at hb
    rw [List.filterMap_cons, hf] at hb
    exact hb
theorem Inv.stkFree (I : Inv X pins σ H s) : ∀ b ∈ frs X.stack, H b = none := fun b hb => by
  rcases List.mem_cons.mp (I.stkSub b hb) with e | hb
  · rw [e]; exact I.free
  · obtain ⟨_, o, ho, _⟩ := I.ok.funs.mem hb
    exact I.base.free b o ho (I.ok.frf b hb) fun z => I.ok.exfs b z hb
theorem Inv.step {g' : Array GenState} {t' : Nat} {d' : Drawn} {ch : List Addr} (I : Inv X pins σ H s)
    (hch : ∀ b ∈ ch, (b ∈ X.ex ∨ X.s₀.heap.objs.size ≤ b) ∧ b ≠ X.env.locals ∧ (∀ x c, X.env.cells.lookup x = some c → c ≠ b) ∧ ∀ p ∈ X.pn ++ pins, p.1 ≠ b)
    (keep : ∀ b o, b ≠ X.env.locals → b ∉ X.fs → b ∉ ch → s.heap.get? b = some o → H b = none → h'.get? b = some o)
    (slot : ∀ b o, b ≠ X.env.locals → b ∈ X.fs → b ∉ ch → s.heap.get? b = some o → H b = none → ∃ sl, h'.get? b = some { o with slots := sl }) (free : ∀ b o, b ∉ ch → s.heap.get? b = some o → H b = none → H' b = none)
    (there : ∀ b o, b ∉ ch → s.heap.get? b = some o → ∃ o', h'.get? b = some o')
    (tups : ∀ b xs, H b = some (.tup xs) → H' b = some (.tup xs)) (frzs : ∀ b o u, H b = some (.frz o u) → H' b = some (.frz o u)) (tbls : ∀ b ps, H b = some (.tbl ps) → ∃ more, H' b = some (.tbl (ps ++ more)))
    (ns : ∀ m, s.heap.Ns X.env.locals m → h'.Ns X.env.locals m) (hok : HOk X.prog X.w H' h') (hg : AllBare g') :
    Inv X pins σ H' { s with heap := h', gens := g', drawn := d', toks := t' } := by
  have neL : ∀ b o, X.s₀.heap.get? b = some o → b ≠ X.env.locals := fun b o e => Nat.ne_of_lt (Nat.lt_of_lt_of_le (Heap.lt_size e) I.ok.above)
  have neC : ∀ b o, X.s₀.heap.get? b = some o → b ∉ X.ex → b ∉ ch := fun b o e hx hb => by
    rcases (hch b hb).1 with z | z
    · exact hx z
    · exact absurd (Nat.lt_of_lt_of_le (Heap.lt_size e) z) (Nat.lt_irrefl _)
  have cellK : ∀ x c, X.env.cells.lookup x = some c → ∀ v, s.heap.IsCell c v → h'.IsCell c v := fun x c e v ⟨o, ho, hd⟩ => by
    have nch : c ∉ ch := fun z => (hch c z).2.2.1 x c e rfl
    by_cases hc : c ∈ X.fs
    · obtain ⟨sl, q⟩ := slot c o (I.cne x c e) hc nch ho (I.freeC x c e)
      exact ⟨_, q, hd⟩
    · exact ⟨o, keep c o (I.cne x c e) hc nch ho (I.freeC x c e), hd⟩
  refine ⟨I.ok, I.os, hg, ⟨fun b o e n hb hx => ?_, fun b o e n hb hx => ?_, fun b o e n hx => ?_, fun b o e hx => ?_, fun b xs e => tups b xs (I.base.tups b xs e), fun b o xs e => frzs b o xs (I.base.frzs b o xs e), fun b ps e => ?_⟩, ?_, fun x c e => ?_, ?_, fun x c e => ?_, fun p hp => ?_, hok, I.len⟩
  · exact keep b o (neL b o e) hb (neC b o e hx) (I.base.keep b o e n hb hx) (I.base.free b o e n hx)
  · obtain ⟨sl, e1⟩ := I.base.slot b o e n hb hx
    obtain ⟨sl', e2⟩ := slot b _ (neL b o e) hb (neC b o e hx) e1 (I.base.free b o e n hx)
    exact ⟨sl', e2⟩
  · obtain ⟨o', e1⟩ := I.base.there b o e hx
    exact free b o' (neC b o e hx) e1 (I.base.free b o e n hx)
  · obtain ⟨o', e1⟩ := I.base.there b o e hx
    exact there b o' (neC b o e hx) e1
  · obtain ⟨m1, e1⟩ := I.base.tbls b ps e
    obtain ⟨m2, e2⟩ := tbls b _ e1
    exact ⟨m1 ++ m2, by rw [e2, Array.append_assoc]⟩
  · obtain ⟨m, hn, hl⟩ := I.loc
    refine ⟨m, ns m hn, fun i x v e1 e2 e3 => ?_⟩
    obtain ⟨u, r, l⟩ := hl i x v e1 e2 e3
    refine ⟨u, r, ?_⟩
    rcases l with l | ⟨k, c, e, z⟩
    · exact .inl l
    · exact .inr ⟨k, c, e, cellK x c e _ z⟩
  · obtain ⟨v, z⟩ := I.cell x c e
    exact ⟨v, cellK x c e v z⟩
  · obtain ⟨m, ⟨o, _, _, ho, _⟩, _⟩ := I.loc
    exact free _ o (fun z => (hch _ z).2.1 rfl) ho I.free
  · obtain ⟨v, o, ho, hd⟩ := I.cell x c e
    exact free c o (fun z => (hch c z).2.2.1 x c e rfl) ho (I.freeC x c e)
  · obtain ⟨e, n, ne, nf, d⟩ := I.pin p hp
    have nch : p.1 ∉ ch := fun z => (hch p.1 z).2.2.2 p hp rfl
    exact ⟨keep p.1 p.2 ne nf nch e n, free p.1 p.2 nch e n, ne, nf, d⟩
theorem Inv.un {t' : Nat} (I : Inv X pins σ H s) (u : Un X.fs [] H H' s.heap h') (hok : HOk X.prog X.w H' h') : Inv X pins σ H' { s with heap := h', toks := t' } := by
  obtain ⟨m, ⟨o, es, ep, ho, r⟩, _⟩ := id I.loc
  obtain ⟨sl, hL⟩ := u.any ho I.free (by simp)
  exact I.step (g' := s.gens) (d' := s.drawn) (ch := []) (fun _ z => nomatch z) (fun b o _ hb _ e n => u.keep b o e n hb (by simp)) (fun b o _ hb _ e n => u.slot b o e n hb (by simp)) (fun b o _ e n => u.free b o e n (by simp)) (fun b o _ e => u.there b o e (by simp)) u.tups u.frzs u.tbls (fun m' hm => by
    obtain ⟨o', es', ep', ho', r'⟩ := hm
    rw [ho] at ho'; cases ho'
    exact ⟨_, es', ep', hL, r'⟩) hok I.bare
theorem Inv.call {g' : Array GenState} {t' : Nat} {d' : Drawn} {ch : List Addr} (I : Inv X pins σ H s) (u : Un (frs X.stack) ch H H' s.heap h') (hok : HOk X.prog X.w H' h') (hg : AllBare g')
    (hch : ∀ b ∈ ch, (b ∈ X.ex ∨ X.s₀.heap.objs.size ≤ b) ∧ b ≠ X.env.locals ∧ (∀ x c, X.env.cells.lookup x = some c → c ≠ b) ∧ ∀ p ∈ X.pn ++ pins, p.1 ≠ b) :
    Inv X pins σ H' { s with heap := h', gens := g', drawn := d', toks := t' } := by
  obtain ⟨m, ⟨o, es, ep, ho, r⟩, _⟩ := id I.loc
  obtain ⟨sl, hL⟩ := u.any ho I.free fun z => (hch _ z).2.1 rfl
  exact I.step (ch := ch) hch (fun b o hL hb hc e n => u.keep b o e n (fun z => (List.mem_cons.mp (I.stkSub b z)).elim hL hb) hc) (fun b o _ _ hc e n => u.any e n hc) (fun b o hc e n => u.free b o e n hc) (fun b o hc e => u.there b o e hc) u.tups u.frzs u.tbls (fun m' hm => by
    obtain ⟨o', es', ep', ho', r'⟩ := hm
    rw [ho] at ho'; cases ho'
    exact ⟨_, es', ep', hL, r'⟩) hok hg
theorem Inv.turned {t' : Nat} {it : Addr} (I : Inv X pins σ H s) (k : ∀ b o, b ≠ it → s.heap.get? b = some o → h'.get? b = some o) (hn : H it = none) (hL : it ≠ X.env.locals)
    (h1 : it ∈ X.ex ∨ X.s₀.heap.objs.size ≤ it) (h2 : ∀ x c, X.env.cells.lookup x = some c → c ≠ it) (h3 : ∀ p ∈ X.pn ++ pins, p.1 ≠ it) : Inv X pins σ H { s with heap := h', toks := t' } := by
  have nit : ∀ b u, H b = some u → b ≠ it := fun b u e z => by rw [z, hn] at e; cases e
  refine I.step (g' := s.gens) (d' := s.drawn) (ch := [it]) (fun b hb => ?_) (fun b o _ _ hc e _ => k b o (fun z => hc (by simp [z])) e) (fun b o _ _ hc e _ => ⟨o.slots, k b o (fun z => hc (by simp [z])) e⟩) (fun _ _ _ _ n => n)
    (fun b o hc e => ⟨o, k b o (fun z => hc (by simp [z])) e⟩) (fun _ _ e => e) (fun _ _ _ e => e) (fun b ps e => ⟨#[], by rw [e]; simp⟩) (fun m hm => ?_) (fun b u e => ?_) I.bare
  · have e : b = it := by simpa using hb
    subst e
    exact ⟨h1, hL, h2, h3⟩
  · obtain ⟨o, es, ep, ho, r⟩ := hm
    exact ⟨o, es, ep, k _ o (Ne.symm hL) ho, r⟩
  · refine (I.hok b u e).stay (fun c v hc q => k c v ?_ q) (fun _ q => q) fun _ _ q => q
    rcases hc with z | z
    · rw [z]; exact nit b u e
    · exact nit c _ z
theorem Inv.tok (I : Inv X pins σ H s) (t : Nat) : Inv X pins σ H { s with toks := t } := I.un (h' := s.heap) (t' := t) Un.refl I.hok
theorem Inv.kept {t' : Nat} (I : Inv X pins σ H s) (k : ∀ b u, s.heap.get? b = some u → h'.get? b = some u) : Inv X pins σ H { s with heap := h', toks := t' } := I.un (Un.kept k) (I.hok.kept k)
theorem Inv.laid {a : Addr} {o : HO} {t' : Nat} (I : Inv X pins σ H s) (k : ∀ b u, s.heap.get? b = some u → h'.get? b = some u) (hp : s.heap.objs.size ≤ a) (new : ObjOk X.prog X.w (upd H a o) h' a o) :
    Inv X pins σ (upd H a o) { s with heap := h', toks := t' } := I.un (Un.laid k hp (I.hok.fresh hp)) (I.hok.laid k hp new)
theorem Inv.write {x e : Addr} {o : HO} {t' : Nat} (I : Inv X pins σ H s) (mu : Mut (H x)) (he : e = x ∨ H e = some (.own x)) (k : ∀ b u, b ≠ e → s.heap.get? b = some u → h'.get? b = some u) (heo : ∃ u, h'.get? e = some u)
    (new : ObjOk X.prog X.w (upd H x o) h' x o) : Inv X pins σ (upd H x o) { s with heap := h', toks := t' } := I.un (Un.write mu he k heo) (I.hok.write mu he k heo new)
theorem Inv.pins_of {pins' : List (Addr × Obj)} (I : Inv X pins σ H s) (h : ∀ p ∈ pins', s.heap.get? p.1 = some p.2 ∧ H p.1 = none ∧ p.1 ≠ X.env.locals ∧ p.1 ∉ X.fs ∧ ∀ v, p.2.data ≠ .cell v) : Inv X pins' σ H s :=
  ⟨I.ok, I.os, I.bare, I.base, I.loc, I.cell, I.free, I.freeC, fun p hp => (List.mem_append.mp hp).elim (fun z => I.pin p (List.mem_append_left _ z)) (h p), I.hok, I.len⟩
theorem nodup_ix {N : List Str} (hN : N.Nodup) {i j : Nat} {x : Str} (a : N[i]? = some x) (b : N[j]? = some x) : i = j := by
  obtain ⟨h1, e1⟩ := List.getElem?_eq_some_iff.mp a
  obtain ⟨h2, e2⟩ := List.getElem?_eq_some_iff.mp b
  exact (List.getElem_inj hN).mp (e1.trans e2.symm)
theorem store_ok2 {M : Model} {A : Around} {E : Value → Shared → Prop} {i : Nat} {x : Str} {v : V} {u : Value} {Q : Unit → Shared → Prop} (I : Inv X pins σ H s) (hN : X.N.Nodup) (hi : X.N[i]? = some x) (hx : Loc X.env.scope x) (r : RelV v u)
    (h : ∀ s', Inv X pins (σ.set i (some v)) H s' → (∃ a, Heap.SameBut a s.heap s'.heap ∧ (a = X.env.locals ∨ X.env.cells.lookup x = some a)) → Q () s') (hf : X.fn x = true ∨ X.env.scope.names.lookup x = some .local := by first | exact .inl rfl | exact .inr rfl | assumption) : wpAny M A (storeName X.env x u) Q E s := by
  obtain ⟨m, hn, hl⟩ := id I.loc
  have hcls : (X.env.scope.kind == .class || (X.env.scope.kind == .module && X.env.locals != X.env.globals)) = false := by rw [I.ok.kind]; rfl
  have hiσ : i < σ.length := by rw [I.len]; exact (List.getElem?_eq_some_iff.mp hi).1
  have cne := I.cne
  have tracked : ∀ {a : Addr} {h' : Heap}, (∃ o, s.heap.get? a = some o ∧ H a = none) → Heap.SameBut a s.heap h' → HOk X.prog X.w H h' := fun {a h'} ha hs b ob e => by
    obtain ⟨_, _, hfree⟩ := ha
    refine (I.hok b ob e).stay (fun c w' hc q => (hs.2 c ?_).trans q) (fun _ q => q) fun _ _ q => q
    rintro rfl
    rcases hc with rfl | hc
    · rw [hfree] at e; cases e
    · rw [hfree] at hc; cases hc
  rcases hx with hk | hk
  · refine wpAny_storeName_local hk hn (fun h' hn' hs => ?_) hcls
    obtain ⟨oL, _, _, hoL, _⟩ := id hn
    refine h _ ⟨I.ok, I.os, I.bare, ⟨fun b o e n hb hx => ?_, fun b o e n hb hx => ?_, I.base.free, fun b o e hx => ?_, I.base.tups, I.base.frzs, I.base.tbls⟩, ⟨_, hn', fun j y v' e1 e2 e3 => ?_⟩, fun y c e => ?_, I.free, I.freeC, fun p hp => ?_, tracked ⟨oL, hoL, I.free⟩ hs, by simpa using I.len⟩ ⟨_, hs, .inl rfl⟩
    · exact (hs.2 b (Nat.ne_of_lt (Nat.lt_of_lt_of_le (Heap.lt_size e) I.ok.above))).trans (I.base.keep b o e n hb hx)
    · obtain ⟨sl, e1⟩ := I.base.slot b o e n hb hx
      exact ⟨sl, (hs.2 b (Nat.ne_of_lt (Nat.lt_of_lt_of_le (Heap.lt_size e) I.ok.above))).trans e1⟩
    · obtain ⟨o', e1⟩ := I.base.there b o e hx
      exact ⟨o', (hs.2 b (Nat.ne_of_lt (Nat.lt_of_lt_of_le (Heap.lt_size e) I.ok.above))).trans e1⟩
    · by_cases hj : j = i
      · subst hj
        rw [hi] at e1; cases e1
        rw [List.getElem?_set_self hiσ] at e2
        cases e2
        exact ⟨u, r, .inl ⟨hk, by simp⟩⟩
      · rw [List.getElem?_set_ne (Ne.symm hj)] at e2
        obtain ⟨u', r', q⟩ := hl j y v' e1 e2 e3
        refine ⟨u', r', ?_⟩
        rcases q with ⟨k, e⟩ | ⟨k, c, e, z⟩
        · refine .inl ⟨k, ?_⟩
          have : y ≠ x := fun e => hj (nodup_ix hN e1 (e ▸ hi))
          simp [this, e]
        · exact .inr ⟨k, c, e, z.sameBut hs (cne y c e)⟩
    · obtain ⟨w', z⟩ := I.cell y c e
      exact ⟨w', z.sameBut hs (cne y c e)⟩
    · obtain ⟨e, n, ne, nf, d⟩ := I.pin p hp
      exact ⟨(hs.2 p.1 ne).trans e, n, ne, nf, d⟩
  · have hfn : X.fn x = true := by
      rcases hf with z | z
      · exact z
      · rw [z] at hk; cases hk
    obtain ⟨c, hc⟩ := I.ok.has x (.inl hk)
    obtain ⟨w', z⟩ := I.cell x c hc
    refine wpAny_storeName_cell I.ok.kind hk hc z (fun h' hc' hs => ?_)
    obtain ⟨oc, hoc, hocd⟩ := id z
    refine h { s with heap := h' } ⟨I.ok, I.os, I.bare, ⟨fun b o e n hb hx => ?_, fun b o e n hb hx => ?_, I.base.free, fun b o e hx => ?_, I.base.tups, I.base.frzs, I.base.tbls⟩, ⟨m, hn.sameBut hs (Ne.symm (cne x c hc)), fun j y v' e1 e2 e3 => ?_⟩, fun y c' e => ?_, I.free, I.freeC, fun p hp => ?_, tracked ⟨oc, hoc, I.freeC x c hc⟩ hs, by simpa using I.len⟩ ⟨c, hs, .inr hc⟩
    · exact (hs.2 b (Nat.ne_of_lt (Nat.lt_of_lt_of_le (Heap.lt_size e) (I.ok.cab x c hfn hc)))).trans (I.base.keep b o e n hb hx)
    · obtain ⟨sl, e1⟩ := I.base.slot b o e n hb hx
      exact ⟨sl, (hs.2 b (Nat.ne_of_lt (Nat.lt_of_lt_of_le (Heap.lt_size e) (I.ok.cab x c hfn hc)))).trans e1⟩
    · obtain ⟨o', e1⟩ := I.base.there b o e hx
      exact ⟨o', (hs.2 b (Nat.ne_of_lt (Nat.lt_of_lt_of_le (Heap.lt_size e) (I.ok.cab x c hfn hc)))).trans e1⟩
    · by_cases hj : j = i
      · subst hj
        rw [hi] at e1; cases e1
        rw [List.getElem?_set_self hiσ] at e2
        cases e2
        exact ⟨u, r, .inr ⟨.inl hk, c, hc, hc'⟩⟩
      · rw [List.getElem?_set_ne (Ne.symm hj)] at e2
        obtain ⟨u', r', q⟩ := hl j y v' e1 e2 e3
        refine ⟨u', r', ?_⟩
        rcases q with q | ⟨k, c', e, z'⟩
        · exact .inl q
        · refine .inr ⟨k, c', e, z'.sameBut hs ?_⟩
          rintro rfl
          exact hj (nodup_ix hN e1 (I.ok.inj _ _ _ e hc ▸ hi))
    · by_cases hcc : c' = c
      · subst hcc; exact ⟨_, hc'⟩
      · obtain ⟨w2, z2⟩ := I.cell y c' e
        exact ⟨w2, z2.sameBut hs hcc⟩
    · obtain ⟨e, n, ne, nf, d⟩ := I.pin p hp
      refine ⟨(hs.2 p.1 ?_).trans e, n, ne, nf, d⟩
      intro q
      rw [q, hoc] at e
      have q' : oc = p.2 := Option.some.inj e
      exact d w' (by rw [← q']; exact hocd)
theorem store_ok {M : Model} {A : Around} {E : Value → Shared → Prop} {i : Nat} {x : Str} {v : V} {u : Value} {Q : Unit → Shared → Prop} (I : Inv X pins σ H s) (hN : X.N.Nodup) (hi : X.N[i]? = some x) (hx : Loc X.env.scope x) (r : RelV v u)
    (h : ∀ s', Inv X pins (σ.set i (some v)) H s' → Q () s') (hf : X.fn x = true ∨ X.env.scope.names.lookup x = some .local := by first | exact .inl rfl | exact .inr rfl | assumption) : wpAny M A (storeName X.env x u) Q E s :=
  store_ok2 I hN hi hx r (fun s' I' _ => h s' I') hf
theorem Inv.call' {s' : Shared} {ch : List Addr} (I : Inv X pins σ H s) (ho : s'.os = s.os) (u : Un (frs X.stack) ch H H' s.heap s'.heap) (hok : HOk X.prog X.w H' s'.heap) (hg : AllBare s'.gens)
    (hch : ∀ b ∈ ch, (b ∈ X.ex ∨ X.s₀.heap.objs.size ≤ b) ∧ b ≠ X.env.locals ∧ (∀ x c, X.env.cells.lookup x = some c → c ≠ b) ∧ ∀ p ∈ X.pn ++ pins, p.1 ≠ b) : Inv X pins σ H' s' := by
  obtain ⟨h', g', d', t', o'⟩ := s'
  have e : o' = s.os := ho
  subst e
  exact I.call (g' := g') (t' := t') (d' := d') u hok hg hch
end
abbrev XK := Value → Option Addr → Hp → Prop
abbrev St := List (Option V)
abbrev VK := V → Hp → Prop
abbrev TE := St → Hp → VK → Prop
abbrev TT := St → Hp → (Bool → Hp → Prop) → Prop
abbrev TA := St → Hp → (List V → Hp → Prop) → Prop
structure Ends where
  nx : St → Hp → Prop
  rt : VK
  bk : St → Hp → Prop := fun _ _ => False
  ct : St → Hp → Prop := fun _ _ => False
abbrev TS := Ends → St → Hp → Prop
def EP (X : Cx) (pins : List (Addr × Obj)) (σ : St) (Q : VK) (u : Value) (s' : Shared) : Prop := ∃ v H', Inv X pins σ H' s' ∧ RelV v u ∧ Q v H'
def TP (X : Cx) (pins : List (Addr × Obj)) (σ : St) (Q : Bool → Hp → Prop) (b : Bool) (s' : Shared) : Prop := ∃ H', Inv X pins σ H' s' ∧ Q b H'
def AP (X : Cx) (pins : List (Addr × Obj)) (σ : St) (Q : List V → Hp → Prop) (us : List Value) (s' : Shared) : Prop := ∃ vs H', Inv X pins σ H' s' ∧ Vals vs us ∧ Q vs H'
def SP (X : Cx) (pins : List (Addr × Obj)) (D : Ends) (f : Flow) (s' : Shared) : Prop :=
  match f with
  | .next => ∃ σ' H', Inv X pins σ' H' s' ∧ D.nx σ' H'
  | .brk => ∃ σ' H', Inv X pins σ' H' s' ∧ D.bk σ' H'
  | .cont => ∃ σ' H', Inv X pins σ' H' s' ∧ D.ct σ' H'
  | .ret u => ∃ v σ' H', Inv X pins σ' H' s' ∧ RelV v u ∧ D.rt v H'
def PE (X : Cx) (e : Expr) (t : TE) : Prop :=
  ∀ (pins : List (Addr × Obj)) (s : Shared) (σ : St) (H : Hp) (Q : VK), Inv X pins σ H s → t σ H Q → wpAny (model X.prog X.w) X.A (eval e X.env) (EP X pins σ Q) X.xe s
def PT (X : Cx) (e : Expr) (t : TT) : Prop :=
  ∀ (pins : List (Addr × Obj)) (s : Shared) (σ : St) (H : Hp) (Q : Bool → Hp → Prop), Inv X pins σ H s → t σ H Q → wpAny (model X.prog X.w) X.A (isTrue e X.env (eval e X.env)) (TP X pins σ Q) X.xe s
def PW (X : Cx) (e : Expr) (t : TT) : Prop :=
  ∀ (whole : Sem Value) (pins : List (Addr × Obj)) (s : Shared) (σ : St) (H : Hp) (Q : Bool → Hp → Prop), Inv X pins σ H s → t σ H Q → wpAny (model X.prog X.w) X.A (isTrue e X.env whole) (TP X pins σ Q) X.xe s
theorem PW.pt {X : Cx} {e : Expr} {t : TT} (h : PW X e t) : PT X e t := h _
def PA (X : Cx) (es : List Expr) (t : TA) : Prop :=
  ∀ (pos : Pos) (pins : List (Addr × Obj)) (s : Shared) (σ : St) (H : Hp) (Q : List V → Hp → Prop), Inv X pins σ H s → t σ H Q → wpAny (model X.prog X.w) X.A (spliced (backTo pos (starEach es X.env))) (AP X pins σ Q) X.xe s
def PS (X : Cx) (st : Stmt) (t : TS) : Prop :=
  ∀ (pins : List (Addr × Obj)) (s : Shared) (σ : St) (H : Hp) (D : Ends), Inv X pins σ H s → t D σ H → wpAny (model X.prog X.w) X.A (exec st X.env) (SP X pins D) X.xe s
def PSs (X : Cx) (st : List Stmt) (t : TS) : Prop :=
  ∀ (pins : List (Addr × Obj)) (s : Shared) (σ : St) (H : Hp) (D : Ends), Inv X pins σ H s → t D σ H → wpAny (model X.prog X.w) X.A (execs st X.env) (SP X pins D) X.xe s
theorem thn {α : Type} {t : Sem α} {Q Q' : α → Shared → Prop} {M : Model} {A : Around} {E : Value → Shared → Prop} {s : Shared} (h : wpAny M A t Q E s) (hQ : ∀ a s, Q a s → Q' a s) : wpAny M A t Q' E s := wpAny_mono h hQ fun _ _ x => x
end L2
namespace L2
open PySem PySem.Spec PyProof.Rows
section
variable {X : Cx}
theorem bin {a b : Expr} {ta tb : TE} (ha : PE X a ta) (hb : PE X b tb) {pins : List (Addr × Obj)} {s : Shared} {σ : St} {H : Hp} {R : V → V → Hp → Prop} (I : Inv X pins σ H s) (h : ta σ H fun x H1 => tb σ H1 fun y H2 => R x y H2)
    {α : Type} {Q : α → Shared → Prop} {f : Value → Value → Sem α}
    (hf : ∀ v u s2 x y H2, Inv X pins σ H2 s2 → RelV x v → RelV y u → R x y H2 → wpAny (model X.prog X.w) X.A (f v u) Q X.xe s2) :
    wpAny (model X.prog X.w) X.A (eval a X.env) (fun v s₁ => wpAny (model X.prog X.w) X.A (eval b X.env) (fun u s₂ => wpAny (model X.prog X.w) X.A (f v u) Q X.xe s₂) X.xe s₁) X.xe s := by
  refine thn (ha pins s σ H _ I h) fun v s1 ⟨x, H1, I1, r1, q1⟩ => ?_
  refine thn (hb pins s1 σ H1 _ I1 q1) fun u s2 ⟨y, H2, I2, r2, q2⟩ => ?_
  exact hf v u s2 x y H2 I2 r1 r2 q2
def tVar (i : Nat) : TE := fun σ H Q => ∃ v, σ[i]? = some (some v) ∧ Q v H
def tC (v : V) : TE := fun _ H Q => Q v H
theorem pe_var {i : Nat} {x : Str} {pos : Pos} (hN : X.N[i]? = some x) (hv : Vis X.env.scope x) (hd : (x == ("__debug__" : Str)) = false := by decide) (hcd : (x == ("__classdict__" : Str)) = false := by decide) : PE X (.Name x pos) (tVar i) := by
  intro pins s σ H Q I h
  obtain ⟨v, e, h⟩ := h
  obtain ⟨m, hn, hl⟩ := I.loc
  obtain ⟨u, r, l⟩ := hl i x v hN e hv
  have fin : EP X pins σ Q u s := ⟨v, H, I, r, h⟩
  rcases l with ⟨hk, hm⟩ | ⟨hk, c, hc, hcell⟩
  · exact wpAny_Name (wpAny_loadName_local I.ok.kind hk hn hm fin) hd
  · rcases hk with hk | hk
    · exact wpAny_Name (wpAny_loadName_cell I.ok.kind hk hc hcell fin) hd
    · exact wpAny_Name (wpAny_loadName_free I.ok.kind hk hc hcell fin hcd) hd
theorem pe_int {i j pos} : PE X (.Constant (.int i) j pos) (tC (.int i)) := fun _ _ _ H _ I h => wpAny_Constant_int ⟨.int i, H, I.tok _, ⟨_, rfl⟩, h⟩
theorem pe_bl {b j pos} : PE X (.Constant (.bool b) j pos) (tC (.bl b)) := fun _ _ _ H _ I h => Constant_bool ⟨.bl b, H, I, rfl, h⟩
theorem pe_non {j pos} : PE X (.Constant .none j pos) (tC .non) := fun _ _ _ H _ I h => Constant_none ⟨.non, H, I, rfl, h⟩
theorem pe_str {x j pos} : PE X (.Constant (.str x) j pos) (tC (.str x)) := fun _ _ _ H _ I h => Calls.Constant_str ⟨.str x, H, I.tok _, ⟨_, rfl⟩, h⟩
def Gl (X : Cx) (x : Str) : Prop := X.env.kindOf x = some .globalImplicit
theorem ld_glob {E : Value → Shared → Prop} {pins : List (Addr × Obj)} {s : Shared} {σ : St} {H : Hp} {x : Str} {u : Value} {pos : Pos} {Q : Value → Shared → Prop} (I : Inv X pins σ H s) (hg : Gl X x) (hm : X.mg x = some u) (h : Q u s)
    (hd : (x == ("__debug__" : Str)) = false := by decide) : wpAny (model X.prog X.w) X.A (eval (.Name x pos) X.env) Q E s :=
  Calls.Name_function_global I.ok.kind hg (Calls.loadGlobal_global (by rw [I.ok.glob]; exact I.mod.glob.keeps I.bk) hm h) hd
theorem ld_blt {E : Value → Shared → Prop} {pins : List (Addr × Obj)} {s : Shared} {σ : St} {H : Hp} {x : Str} {u : Value} {pos : Pos} {Q : Value → Shared → Prop} (I : Inv X pins σ H s) (hg : Gl X x) (hm : X.mg x = none) (hv : bootBuiltins x = some u) (h : Q u s)
    (hn : x ≠ "__name__" := by decide) (hd : (x == ("__debug__" : Str)) = false := by decide) : wpAny (model X.prog X.w) X.A (eval (.Name x pos) X.env) Q E s := by
  obtain ⟨mb, h1, h2⟩ := I.mod.blt
  exact Calls.Name_function_global I.ok.kind hg (Calls.loadGlobal_builtin (by rw [I.ok.glob]; exact I.mod.glob.keeps I.bk) hm (by rw [I.ok.blt]; exact h1.keeps I.bk) ((h2 x hn).trans hv) h) hd
theorem pe_glob {x : Str} {v : V} {u : Value} {pos : Pos} (hg : Gl X x) (hm : X.mg x = some u) (r : RelV v u) (hd : (x == ("__debug__" : Str)) = false := by decide) : PE X (.Name x pos) (tC v) :=
  fun _ _ _ H _ I h => ld_glob I hg hm ⟨v, H, I, r, h⟩ hd
theorem pe_bltn {x : Str} {v : V} {u : Value} {pos : Pos} (hg : Gl X x) (hm : X.mg x = none) (hv : bootBuiltins x = some u) (r : RelV v u) (hn : x ≠ "__name__" := by decide) (hd : (x == ("__debug__" : Str)) = false := by decide) : PE X (.Name x pos) (tC v) :=
  fun _ _ _ H _ I h => ld_blt I hg hm hv ⟨v, H, I, r, h⟩ hn hd
variable {a b : Expr} {ta tb : TE} {pos : Pos}
def PC (X : Cx) (op : CmpOp) (a b : Expr) (t : TE) : Prop :=
  ∀ (pins : List (Addr × Obj)) (s : Shared) (σ : St) (H : Hp) (Q : VK), Inv X pins σ H s → t σ H Q →
    wpAny (model X.prog X.w) X.A (eval a X.env) (fun v s₁ => wpAny (model X.prog X.w) X.A (eval b X.env) (fun u s₂ => wpAny (model X.prog X.w) X.A (compareOp op v u) (EP X pins σ Q) X.xe s₂) X.xe s₁) X.xe s
theorem nobehind (b : Expr) {op : CmpOp} (h : op ≠ .In) (h2 : op ≠ .NotIn) : behindInMarks op b = false := by
  have e1 : (op == CmpOp.In) = false := by cases op <;> first | rfl | exact absurd rfl h
  have e2 : (op == CmpOp.NotIn) = false := by cases op <;> first | rfl | exact absurd rfl h2
  cases b <;> simp [behindInMarks, e1, e2]
def tB (t : TE) : TT := fun σ H Q => t σ H fun x H1 => ∃ c, x = .bl c ∧ Q c H1
theorem pt_cmp {op : CmpOp} {t : TE} (h : PC X op a b t) (h1 : behindInMarks op b = false := by first | exact nobehind _ (by decide) (by decide) | rfl) : PT X (.Compare a [op] [b] pos) (tB t) := by
  intro pins s σ H Q I hw
  refine wpAny_isTrue_Compare1 (thn (h pins s σ H _ I hw) fun v s1 h1 => thn h1 fun u s2 h2 => thn h2 fun c s3 ⟨x, H1, I1, r1, q1⟩ => ?_) h1
  obtain ⟨d, rfl, q⟩ := q1
  cases r1
  exact wpAny_truthy_bool ⟨H1, I1, q⟩
theorem pt_val {e : Expr} {t : TE} (h : PE X e t) (he : ∀ whole, isTrue e X.env whole = (do let v ← whole; standAt e.pos; holding [v] (truthy v)) := by intro _; rfl) : PT X e (tB t) := by
  intro pins s σ H Q I hw
  refine isTrue_plain (thn (h pins s σ H _ I hw) fun v s1 ⟨x, H1, I1, r1, q1⟩ => ?_) (he _)
  obtain ⟨d, rfl, q⟩ := q1
  cases r1
  exact wpAny_truthy_bool ⟨H1, I1, q⟩
variable {tA tB' : TT} {rest : List Expr}
def tAnd (t u : TT) : TT := fun σ H Q => t σ H fun c H1 => if c = true then u σ H1 Q else Q false H1
def tOr (t u : TT) : TT := fun σ H Q => t σ H fun c H1 => if c = true then Q true H1 else u σ H1 Q
def tNot (t : TT) : TT := fun σ H Q => t σ H fun c H1 => Q (!c) H1
theorem pw_and1 (ha : PT X a tA) : PW X (.BoolOp .And [a] pos) tA := by
  intro wh pins s σ H Q I h
  refine isTrue_and (thn (ha pins s σ H Q I h) fun c s1 e => ?_)
  cases c with
  | true => exact isTrue_and_nil e
  | false => exact e
theorem pw_or1 (ha : PT X a tA) : PW X (.BoolOp .Or [a] pos) tA := by
  intro wh pins s σ H Q I h
  refine isTrue_or (thn (ha pins s σ H Q I h) fun c s1 e => ?_)
  cases c with
  | false => exact isTrue_or_nil e
  | true => exact e
theorem pw_and (ha : PT X a tA) (hb : PW X (.BoolOp .And (b :: rest) pos) tB') : PW X (.BoolOp .And (a :: b :: rest) pos) (tAnd tA tB') := by
  intro wh pins s σ H Q I h
  refine isTrue_and (thn (ha pins s σ H _ I h) fun c s1 ⟨H1, I1, q1⟩ => ?_)
  cases c with
  | true => exact hb wh pins s1 σ H1 Q I1 q1
  | false => exact ⟨H1, I1, q1⟩
theorem pw_or (ha : PT X a tA) (hb : PW X (.BoolOp .Or (b :: rest) pos) tB') : PW X (.BoolOp .Or (a :: b :: rest) pos) (tOr tA tB') := by
  intro wh pins s σ H Q I h
  refine isTrue_or (thn (ha pins s σ H _ I h) fun c s1 ⟨H1, I1, q1⟩ => ?_)
  cases c with
  | true => exact ⟨H1, I1, q1⟩
  | false => exact hb wh pins s1 σ H1 Q I1 q1
theorem pt_not (ha : PT X a tA) : PT X (.UnaryOp .Not a pos) (tNot tA) := by
  intro pins s σ H Q I h
  exact isTrue_not (ha pins s σ H (fun c H1 => Q (!c) H1) I h)
def tAndV (ta tb : TE) : TE := fun σ H Q => ta σ H fun x H1 => ∃ c, x = .bl c ∧ if c = true then tb σ H1 Q else Q (.bl false) H1
def tNotV (ta : TE) : TE := fun σ H Q => ta σ H fun x H1 => ∃ c, x = .bl c ∧ Q (.bl (!c)) H1
theorem pe_one {op} {t : TE} (h : PE X a t) : PE X (.BoolOp op [a] pos) t := fun pins s σ H Q I hw => BoolOp_one (h pins s σ H Q I hw)
theorem pe_and (ha : PE X a ta) (hb : PE X (.BoolOp .And (b :: rest) pos) tb) : PE X (.BoolOp .And (a :: b :: rest) pos) (tAndV ta tb) := by
  intro pins s σ H Q I h
  refine BoolOp_and (thn (ha pins s σ H _ I h) fun v s1 ⟨x, H1, I1, r1, q1⟩ => ?_)
  obtain ⟨c, rfl, q1⟩ := q1
  cases r1
  refine wpAny_truthy_bool ?_
  cases c with
  | true => exact hb pins s1 σ H1 Q I1 q1
  | false => exact ⟨.bl false, H1, I1, rfl, q1⟩
theorem pe_not (ha : PE X a ta) : PE X (.UnaryOp .Not a pos) (tNotV ta) := by
  intro pins s σ H Q I h
  refine UnaryOp_ (thn (ha pins s σ H _ I h) fun v s1 ⟨x, H1, I1, r1, q1⟩ => ?_)
  obtain ⟨c, rfl, q1⟩ := q1
  cases r1
  exact not_of (wpAny_truthy_bool ⟨.bl (!c), H1, I1, rfl, q1⟩)
def tIf (t : TT) (ta tb : TE) : TE := fun σ H Q => t σ H fun c H1 => if c = true then ta σ H1 Q else tb σ H1 Q
theorem pe_ifExp {c : Expr} (hc : PT X c tA) (ha : PE X a ta) (hb : PE X b tb) : PE X (.IfExp c a b pos) (tIf tA ta tb) := by
  intro pins s σ H Q I h
  refine wpAny_IfExp (thn (hc pins s σ H _ I h) fun d s1 ⟨H1, I1, q1⟩ => ?_)
  cases d with
  | true => exact ha pins s1 σ H1 Q I1 q1
  | false => exact hb pins s1 σ H1 Q I1 q1
end
end L2
namespace L2
open PySem PySem.Spec PyProof.Rows
def SqL (K : PySem.W.Frag) (H : Hp) (a : Addr) (xs : List V) : Prop :=
  Rd H a (.lst xs) ∨
    ∃ (o : Obj) (its : Array Value) (n : Nat), K.lookup a = some o ∧ o.cls = .type "list" ∧ o.dict = none ∧ o.data = .seq its n ∧ its.size ≤ sizeLine ∧ Vals xs its.toList
def SqT (K : PySem.W.Frag) (H : Hp) (a : Addr) (xs : List V) : Prop :=
  Rd H a (.tup xs) ∨
    ∃ (o : Obj) (its : Array Value) (n : Nat), K.lookup a = some o ∧ o.cls = .type "tuple" ∧ o.data = .seq its n ∧ its.size ≤ sizeLine ∧ Vals xs its.toList
def absV : Value → Option V
  | .none => some .non
  | .bool b => some (.bl b)
  | .int i _ => some (.int i)
  | .str x _ => some (.str x)
  | .bytes b _ => some (.byt b)
  | .float b _ => some (.flt b)
  | .ref a => some (.ref a)
  | .type n => some (.ty n)
  | _ => none
theorem RelV.abs {x : V} {u : Value} (r : RelV x u) : absV u = some x := by
  cases x with
  | non => cases r; rfl
  | bl _ => cases r; rfl
  | int _ => obtain ⟨t, rfl⟩ := r; rfl
  | str _ => obtain ⟨t, rfl⟩ := r; rfl
  | byt _ => obtain ⟨t, rfl⟩ := r; rfl
  | flt _ => obtain ⟨t, rfl⟩ := r; rfl
  | ref _ => cases r; rfl
  | ty _ => cases r; rfl
theorem RelV.inj {x y : V} {u : Value} (r : RelV x u) (q : RelV y u) : x = y := Option.some.inj (r.abs.symm.trans q.abs)
theorem Vals.inj : ∀ {xs ys : List V} {us : List Value}, Vals xs us → Vals ys us → xs = ys
  | _, _, _, .nil, .nil => rfl
  | _, _, _, .cons r t, .cons r' t' => by rw [r.inj r', Vals.inj t t']
section
variable {X : Cx} {pins : List (Addr × Obj)} {σ : St} {H : Hp} {s : Shared} {a : Addr} {xs ys : List V}
theorem SqL.of {K : PySem.W.Frag} (h : H a = some (.lst xs)) : SqL K H a xs := .inl (.inl h)
theorem SqT.of {K : PySem.W.Frag} (h : H a = some (.tup xs)) : SqT K H a xs := .inl (.inl h)
theorem Inv.list (I : Inv X pins σ H s) (h : SqL X.K H a xs) : ∃ its : List Value, Vals xs its ∧ PlainL s.heap a its.toArray ∧ xs.length ≤ sizeLine := by
  rcases h with h | ⟨o, its, n, hk, hc, hd, hs, hz, r⟩
  · obtain ⟨z, its, n, r, e⟩ := h.ok I.hok
    exact ⟨its, r, ⟨_, n, e, rfl, rfl, rfl⟩, z⟩
  · refine ⟨its.toList, r, ⟨o, n, I.kIn a o hk, hc, hd, by simpa using hs⟩, ?_⟩
    have e := r.length
    simp only [Array.length_toList] at e
    omega
theorem Inv.tuple (I : Inv X pins σ H s) (h : SqT X.K H a xs) : ∃ its : List Value, Vals xs its ∧ IsTup s.heap a its.toArray ∧ xs.length ≤ sizeLine := by
  rcases h with h | ⟨o, its, n, hk, hc, hs, hz, r⟩
  · obtain ⟨z, its, r, p⟩ := h.ok I.hok
    exact ⟨its, r, p, z⟩
  · refine ⟨its.toList, r, ⟨o, I.kIn a o hk, hc, n, by simpa using hs⟩, ?_⟩
    have e := r.length
    simp only [Array.length_toList] at e
    omega
theorem Inv.list_inj (I : Inv X pins σ H s) (h : SqL X.K H a xs) (h' : SqL X.K H a ys) : xs = ys := by
  obtain ⟨its, r, ⟨o, n, e, _, _, d⟩, _⟩ := I.list h
  obtain ⟨its', r', ⟨o', n', e', _, _, d'⟩, _⟩ := I.list h'
  rw [e] at e'; cases e'
  rw [d] at d'
  injection d' with d1 _
  have : its = its' := by simpa using congrArg Array.toList d1
  subst this
  exact r.inj r'
theorem Inv.tuple_inj (I : Inv X pins σ H s) (h : SqT X.K H a xs) (h' : SqT X.K H a ys) : xs = ys := by
  obtain ⟨its, r, ⟨o, e, _, n, d⟩, _⟩ := I.tuple h
  obtain ⟨its', r', ⟨o', e', _, n', d'⟩, _⟩ := I.tuple h'
  rw [e] at e'; cases e'
  rw [d] at d'
  injection d' with d1 _
  have : its = its' := by simpa using congrArg Array.toList d1
  subst this
  exact r.inj r'
end
abbrev Cx.wish (X : Cx) (E : Value → Shared → Prop) : Cx := { X with xe := E }
abbrev Cx.nox (X : Cx) : Cx := X.wish fun _ _ => False
theorem Cx.Ok.wish {X : Cx} (ok : X.Ok) (E : Value → Shared → Prop) : (X.wish E).Ok :=
  ⟨ok.mod, ok.kind, ok.glob, ok.blt, ok.above, ok.inj, ok.has, ok.cab, ok.hd, ok.frames, ok.stk, ok.exf, ok.bs, ok.bsz, ok.noex, ok.exfs, ok.funs, ok.frf⟩
theorem Cx.Ok.unwish {X : Cx} {E : Value → Shared → Prop} (ok : (X.wish E).Ok) : X.Ok :=
  ⟨ok.mod, ok.kind, ok.glob, ok.blt, ok.above, ok.inj, ok.has, ok.cab, ok.hd, ok.frames, ok.stk, ok.exf, ok.bs, ok.bsz, ok.noex, ok.exfs, ok.funs, ok.frf⟩
section
variable {X : Cx} {pins : List (Addr × Obj)} {σ : St} {H : Hp} {s : Shared} {E : Value → Shared → Prop}
theorem Inv.wish (I : Inv X pins σ H s) (E : Value → Shared → Prop) : Inv (X.wish E) pins σ H s := ⟨I.ok.wish E, I.os, I.bare, I.base, I.loc, I.cell, I.free, I.freeC, I.pin, I.hok, I.len⟩
theorem Inv.unwish (I : Inv (X.wish E) pins σ H s) : Inv X pins σ H s := ⟨I.ok.unwish, I.os, I.bare, I.base, I.loc, I.cell, I.free, I.freeC, I.pin, I.hok, I.len⟩
theorem SP.unwish {D : Ends} {f : Flow} {s' : Shared} (h : SP (X.wish E) pins D f s') : SP X pins D f s' := by
  cases f with
  | next => obtain ⟨σ', H', I, q⟩ := h; exact ⟨σ', H', I.unwish, q⟩
  | brk => obtain ⟨σ', H', I, q⟩ := h; exact ⟨σ', H', I.unwish, q⟩
  | cont => obtain ⟨σ', H', I, q⟩ := h; exact ⟨σ', H', I.unwish, q⟩
  | ret u => obtain ⟨v, σ', H', I, r, q⟩ := h; exact ⟨v, σ', H', I.unwish, r, q⟩
theorem PE.nox {e : Expr} {t : TE} (h : PE X.nox e t) : PE X e t := fun pins s σ H Q I hw =>
  wpAny_mono (h pins s σ H Q (I.wish _) hw) (fun _ _ ⟨v, H', I', r, q⟩ => ⟨v, H', I'.unwish, r, q⟩) fun _ _ z => False.elim z
theorem PT.nox {e : Expr} {t : TT} (h : PT X.nox e t) : PT X e t := fun pins s σ H Q I hw =>
  wpAny_mono (h pins s σ H Q (I.wish _) hw) (fun _ _ ⟨H', I', q⟩ => ⟨H', I'.unwish, q⟩) fun _ _ z => False.elim z
theorem PSs.nox {st : List Stmt} {t : TS} (h : PSs X.nox st t) : PSs X st t := fun pins s σ H D I hw =>
  wpAny_mono (h pins s σ H D (I.wish _) hw) (fun _ _ q => q.unwish) fun _ _ z => False.elim z
end
section
variable {X : Cx} {st : Stmt} {rest : List Stmt} {t u : TS} {e : Expr} {te : TE} {pos : Pos}
def tNext : TS := fun D σ H => D.nx σ H
def tSeq (t u : TS) : TS := fun D σ H => t { D with nx := u D } σ H
theorem pss_nil : PSs X [] tNext := fun _ _ σ H _ I h => wpAny_execs_nil ⟨σ, H, I, h⟩
theorem pss_cons (h1 : PS X st t) (h2 : PSs X rest u) : PSs X (st :: rest) (tSeq t u) := by
  intro pins s σ H D I h
  refine wpAny_execs_cons (thn (h1 pins s σ H { D with nx := u D } I h) fun f s1 q => ?_)
  cases f with
  | next =>
    obtain ⟨σ', H', I', q⟩ := q
    exact h2 pins s1 σ' H' D I' q
  | ret v => exact q
  | brk => exact q
  | cont => exact q
theorem pss_one (h1 : PS X st t) : PSs X [st] t := by
  intro pins s σ H D I h
  refine wpAny_execs_cons (thn (h1 pins s σ H D I h) fun f s1 q => ?_)
  cases f with
  | next => exact wpAny_execs_nil q
  | ret v => exact q
  | brk => exact q
  | cont => exact q
theorem Inv.quiet {pins : List (Addr × Obj)} {σ : St} {H : Hp} {s : Shared} (I : Inv X pins σ H s) : interactive X.env = false := by simp [interactive, I.ok.kind]
def tDrop (te : TE) : TS := fun D σ H => te σ H fun _ H1 => D.nx σ H1
theorem ps_expr (he : PE X e te) (hs : swapsWith e none pos.line X.env = pure false := by rfl) : PS X (.Expr e pos) (tDrop te) := by
  intro pins s σ H D I h
  exact wpAny_Expr_any (thn (he pins s σ H _ I h) fun v s1 ⟨x, H1, I1, r1, q1⟩ => ⟨σ, H1, I1, q1⟩) I.quiet hs
def tRet (te : TE) : TS := fun D σ H => te σ H D.rt
theorem ps_ret (he : PE X e te) : PS X (.Return (some e) pos) (tRet te) := by
  intro pins s σ H D I h
  exact wpAny_Return_some (thn (he pins s σ H _ I h) fun v s1 ⟨x, H1, I1, r1, q1⟩ => ⟨x, σ, H1, I1, r1, q1⟩)
def tIfS (c : TT) (t u : TS) : TS := fun D σ H => c σ H fun b H1 => if b = true then t D σ H1 else u D σ H1
theorem ps_if {c : Expr} {a b : List Stmt} {tc : TT} (hc : PT X c tc) (ha : PSs X a t) (hb : PSs X b u) : PS X (.If c a b pos) (tIfS tc t u) := by
  intro pins s σ H D I h
  refine wpAny_If (thn (hc pins s σ H _ I h) fun d s1 ⟨H1, I1, q1⟩ => ?_)
  cases d with
  | true => exact ha pins s1 σ H1 D I1 q1
  | false => exact hb pins s1 σ H1 D I1 q1
def tNever : TS := fun _ _ _ => False
theorem pss_never {sts : List Stmt} : PSs X sts tNever := fun _ _ _ _ _ _ h => h.elim
end
abbrev TG := V → St → Hp → (St → Hp → Prop) → Prop
abbrev TGs := List V → St → Hp → (St → Hp → Prop) → Prop
def PG (X : Cx) (target : Expr) (t : TG) : Prop :=
  ∀ (pins : List (Addr × Obj)) (s : Shared) (σ : St) (H : Hp) (v : V) (u : Value) (Q : St → Hp → Prop), Inv X pins σ H s → RelV v u → t v σ H Q →
    wpAny (model X.prog X.w) X.A (assign target X.env u) (fun _ s' => ∃ σ' H', Inv X pins σ' H' s' ∧ Q σ' H') X.xe s
def PGs (X : Cx) (ts : List Expr) (t : TGs) : Prop :=
  ∀ (pins : List (Addr × Obj)) (s : Shared) (σ : St) (H : Hp) (vs : List V) (us : List Value) (Q : St → Hp → Prop), Inv X pins σ H s → Vals vs us → t vs σ H Q →
    wpAny (model X.prog X.w) X.A (assignInOrder ((assignEach ts X.env).map (·.2)) us) (fun _ s' => ∃ σ' H', Inv X pins σ' H' s' ∧ Q σ' H') X.xe s
section
variable {X : Cx} {pos : Pos}
def gName (i : Nat) : TG := fun v σ H Q => Q (σ.set i (some v)) H
theorem pg_name {i : Nat} {x : Str} (hN : X.N.Nodup) (hi : X.N[i]? = some x) (hx : Loc X.env.scope x) (hf : X.fn x = true ∨ X.env.scope.names.lookup x = some .local := by first | exact .inl rfl | exact .inr rfl | assumption) : PG X (.Name x pos) (gName i) := by
  intro pins s σ H v u Q I r h
  exact wpAny_assign_Name (store_ok I hN hi hx r (fun s' I' => ⟨_, H, I', h⟩) hf)
def gNil : TGs := fun vs σ H Q => vs = [] ∧ Q σ H
def gCons (t : TG) (u : TGs) : TGs := fun vs σ H Q => ∃ v r, vs = v :: r ∧ t v σ H fun σ' H' => u r σ' H' Q
theorem pgs_nil : PGs X [] gNil := by
  intro pins s σ H vs us Q I r h
  obtain ⟨e, h⟩ := h
  subst e
  cases r
  exact assignInOrder_nil ⟨σ, H, I, h⟩
theorem pgs_cons {e : Expr} {es : List Expr} {t : TG} {u : TGs} (h1 : PG X e t) (h2 : PGs X es u)
    (hs : (assignEach (e :: es) X.env).map (·.2) = assign e X.env :: (assignEach es X.env).map (·.2) := by rfl) : PGs X (e :: es) (gCons t u) := by
  intro pins s σ H vs us Q I r h
  obtain ⟨v, vr, e1, h⟩ := h
  subst e1
  cases r with
  | cons r rr =>
    rw [hs]
    refine assignInOrder_cons (thn (h1 pins s σ H _ _ _ I r h) fun _ s1 ⟨σ1, H1, I1, q1⟩ => ?_)
    exact h2 pins s1 σ1 H1 _ _ Q I1 rr q1
def gTup (K : PySem.W.Frag) (n : Nat) (t : TGs) : TG := fun v σ H Q => ∃ a xs, v = .ref a ∧ SqT K H a xs ∧ xs.length = n ∧ t xs σ H Q
theorem pg_tup {es : List Expr} {k : Nat} {t : TGs} {n : Nat} (hc : X.calm = true) (h : PGs X es t)
    (hn : (assignEach es X.env).length = n := by rfl) (hst : (assignEach es X.env).findIdx? (·.1) = none := by rfl) : PG X (.Tuple es k pos) (gTup X.K n t) := by
  intro pins s σ H v u Q I r hw
  obtain ⟨a, xs, e1, hq, hl, hw⟩ := hw
  subst e1
  cases r
  obtain ⟨its, rv, ht, hz⟩ := I.tuple hq
  refine assign_Tuple_tuple (I.ok.hd hc) ht (by simp [hn, ← hl, rv.length]) hst fun h' hx => ?_
  have I1 : Inv X pins σ H { s with heap := h' } := I.kept (t' := s.toks) fun b o e => hx b o (Nat.ne_of_lt (Heap.lt_size e)) e
  exact h pins _ σ H xs _ Q I1 (by simpa using rv) hw
def tAsg (te : TE) (g : TG) : TS := fun D σ H => te σ H fun x H1 => g x σ H1 D.nx
theorem ps_asg {tg e : Expr} {te : TE} {g : TG} (he : PE X e te) (hg : PG X tg g) (hs : swapsWithSole [tg] e pos.line X.env = pure false := by rfl) (hw : swappedStores [tg] e X.env = pure none := by rfl)
    (h1 : (assignEach [tg] X.env).map (·.2) = [assign tg X.env] := by rfl) : PS X (.Assign [tg] e pos) (tAsg te g) := by
  intro pins s σ H D I h
  refine wpAny_Assign_stores (thn (he pins s σ H _ I h) fun v s1 ⟨x, H1, I1, r1, q1⟩ => ?_) hs hw
  rw [h1]
  exact thn (hg pins s1 σ H1 x v _ I1 r1 q1) fun _ s2 q => q
theorem ps_set {i : Nat} {x : Str} {e : Expr} {te : TE} {pos' : Pos} (hN : X.N.Nodup) (hi : X.N[i]? = some x) (hx : Loc X.env.scope x) (he : PE X e te) (hs : swapsWith e (some (.Name x pos')) pos.line X.env = pure false := by rfl) (hf : X.fn x = true ∨ X.env.scope.names.lookup x = some .local := by first | exact .inl rfl | exact .inr rfl | assumption) :
    PS X (.Assign [.Name x pos'] e pos) (tAsg te (gName i)) := by
  intro pins s σ H D I h
  refine wpAny_Assign_Name (thn (he pins s σ H _ I h) fun v s1 ⟨y, H1, I1, r1, q1⟩ => ?_) hs
  exact store_ok I1 hN hi hx r1 (fun s2 I2 => ⟨_, H1, I2, q1⟩) hf
end
structure It where
  go : Nat → Hp → Prop
  yld : Nat → Hp → V → Hp → Prop
  stop : Nat → Hp → Prop
def FpOk (X : Cx) (pins : List (Addr × Obj)) (H : Hp) (b : Addr) : Prop :=
  H b = none ∧ b ≠ X.env.locals ∧ b ∉ X.fs ∧ (b ∈ X.ex ∨ X.s₀.heap.objs.size ≤ b) ∧ (∀ x c, X.env.cells.lookup x = some c → c ≠ b) ∧ ∀ p ∈ X.pn ++ pins, p.1 ≠ b
theorem Inv.fpOk {X : Cx} {pins : List (Addr × Obj)} {σ : St} {H H' : Hp} {s : Shared} {b : Addr} (I : Inv X pins σ H s) (hb : s.heap.objs.size ≤ b) (hn : H' b = none) : FpOk X pins H' b := by
  refine ⟨hn, Nat.ne_of_gt (Nat.lt_of_lt_of_le I.lt hb), I.nofs hb, .inr (Nat.le_trans I.sz hb), fun x c e z => ?_, fun p hp z => ?_⟩
  · obtain ⟨v, q⟩ := I.cell x c e
    exact absurd (Nat.lt_of_lt_of_le q.lt (by rw [z]; exact hb)) (Nat.lt_irrefl _)
  · exact absurd (Nat.lt_of_lt_of_le (Heap.lt_size (I.pin p hp).1) (by rw [z]; exact hb)) (Nat.lt_irrefl _)
structure Turn (P : Program) (w : World) (K : PySem.W.Frag) (tg : Expr) (J : It) (fp : List Addr) (it : Addr) (tn : Nat → Heap → Prop) : Prop where
  mem : it ∈ fp
  obj : ∀ i h, tn i h → ∀ b ∈ fp, ∃ o, h.get? b = some o ∧ ∀ v, o.data ≠ .cell v
  keep : ∀ i h h', tn i h → (∀ b ∈ fp, ∀ o, h.get? b = some o → h'.get? b = some o) → tn i h'
  item : ∀ (X : Cx), X.prog = P → X.w = w → X.K = K → X.calm = true → ∀ (i : Nat) (pins : List (Addr × Obj)) (s : Shared) (σ : St) (H : Hp) (E : Value → Shared → Prop), Inv X pins σ H s → (∀ b ∈ fp, FpOk X pins H b) → tn i s.heap → J.go i H →
    wpAny (model P w) X.A (pyNext (.ref it)) (fun r s1 => ∃ u, r = some u ∧
      wpAny (model P w) X.A (letOwnedTupleGo tg (.ref it) u) (fun _ s2 => ∃ x H', Inv X pins σ H' s2 ∧ RelV x u ∧ J.yld i H x H' ∧ tn (i + 1) s2.heap ∧ ∀ b ∈ fp, H' b = none) E s1) E s
  done : ∀ (X : Cx), X.prog = P → X.w = w → X.K = K → X.calm = true → ∀ (i : Nat) (pins : List (Addr × Obj)) (s : Shared) (σ : St) (H : Hp) (E : Value → Shared → Prop), Inv X pins σ H s → (∀ b ∈ fp, FpOk X pins H b) → tn i s.heap → J.stop i H →
    wpAny (model P w) X.A (pyNext (.ref it)) (fun r s1 => r = none ∧ Inv X pins σ H s1) E s
  self : ∀ (A : Around) (i : Nat) (s : Shared) (Q : Value → Shared → Prop) (E : Value → Shared → Prop), tn i s.heap → Q (.ref it) s → wpAny (model P w) A (pyIter (.ref it)) Q E s
abbrev TI := St → Hp → (It → Hp → Prop) → Prop
def PIE (X : Cx) (pins : List (Addr × Obj)) (σ : St) (tg : Expr) (R : It → Hp → Prop) (itv : Value) (s2 : Shared) : Prop :=
  ∃ (it : Addr) (fp : List Addr) (tn : Nat → Heap → Prop) (J : It) (H' : Hp), itv = .ref it ∧ Inv X pins σ H' s2 ∧ Turn X.prog X.w X.K tg J fp it tn ∧ tn 0 s2.heap ∧ (∀ b ∈ fp, FpOk X pins H' b) ∧ R J H'
def PI (X : Cx) (tg iter : Expr) (wi : TI) : Prop :=
  ∀ (pins : List (Addr × Obj)) (s : Shared) (σ : St) (H : Hp) (R : It → Hp → Prop), Inv X pins σ H s → wi σ H R →
    wpAny (model X.prog X.w) X.A (eval iter X.env) (fun v s1 => wpAny (model X.prog X.w) X.A (pyIter v) (PIE X pins σ tg R) X.xe s1) X.xe s
theorem go_of {M : Model} {A : Around} {E : Value → Shared → Prop} {s : Shared} {tg : Expr} {it : Addr} {u : Value} {o : Obj} {n : String} {vs : Array Value} {Q : Unit → Shared → Prop} (ho : s.heap.get? it = some o) (hc : o.cls = .type n) (hd : o.data = .fields vs)
    (hn : ["enumerate", "zip", "dict_itemiterator", "dict_reverseitemiterator", "odict_iterator", "itertools.zip_longest", "itertools.pairwise"].contains n = false) (hQ : Q () s) : wpAny M A (letOwnedTupleGo tg (.ref it) u) Q E s := by
  unfold letOwnedTupleGo
  cases tg <;> first
    | exact wpAny_pure hQ
    | (cases u <;> first
        | exact wpAny_pure hQ
        | (refine wpAny_bind (wpAny_load ho ?_)
           rw [hc, hd]
           show wpAny M A (if (["enumerate", "zip", "dict_itemiterator", "dict_reverseitemiterator", "odict_iterator", "itertools.zip_longest", "itertools.pairwise"].contains n && vs[0]? == some (rawInt _)) = true then _ else _) Q E s
           rw [if_neg (by intro h; rw [hn, Bool.false_and] at h; cases h)]
           exact wpAny_pure hQ))
def Itl (K : PySem.W.Frag) (a : Addr) : It :=
  ⟨fun i H => ∃ xs x, SqL K H a xs ∧ xs[i]? = some x, fun i H x H' => H' = H ∧ ∀ xs, SqL K H a xs → xs[i]? = some x, fun i H => ∃ xs, SqL K H a xs ∧ xs.length ≤ i⟩
def Itt (K : PySem.W.Frag) (a : Addr) : It :=
  ⟨fun i H => ∃ xs x, SqT K H a xs ∧ xs[i]? = some x, fun i H x H' => H' = H ∧ ∀ xs, SqT K H a xs → xs[i]? = some x, fun i H => ∃ xs, SqT K H a xs ∧ xs.length ≤ i⟩
def Itr (lo : Int) (n : Nat) : It := ⟨fun i _ => i < n, fun i H x H' => H' = H ∧ x = .int (lo + i), fun i _ => n ≤ i⟩
theorem turn_list {P : Program} {w : World} {K : PySem.W.Frag} {tg : Expr} (a it : Addr) : Turn P w K tg (Itl K a) [it] it (fun i h => h.IsListIter it a i) where
  mem := by simp
  obj := fun i h st b hb => by
    have e : b = it := by simpa using hb
    subst e
    obtain ⟨o, e, c, d⟩ := st
    exact ⟨o, e, fun v z => by rw [d] at z; cases z⟩
  keep := fun i h h' st k => st.at fun o e => k it (by simp) o e
  item := by
    intro X hP hw hK hc i pins s σ H E I hf st hg
    subst hP hw hK
    obtain ⟨xs, x, hq, hx⟩ := hg
    obtain ⟨its, rv, p, hz⟩ := I.list hq
    obtain ⟨u, hu, ru⟩ := rv.get hx
    obtain ⟨f0, f1, f2, f3, f4, f5⟩ := hf it (by simp)
    refine wpAny_pyNext_list_item st p.isList (x := u) (by simpa using hu) fun h' st' sb => ?_
    have I1 : Inv X pins σ H { s with heap := h' } := I.turned (t' := s.toks) (fun b o hb e => (sb.2 b hb).trans e) f0 f1 f3 f4 f5
    obtain ⟨o, e, c, d⟩ := id st'
    exact ⟨u, rfl, go_of (s := { s with heap := h' }) e c d (by decide) ⟨x, H, I1, ru, ⟨rfl, fun ys hy => by rw [I.list_inj hy hq]; exact hx⟩, st', fun b hb => (hf b hb).1⟩⟩
  done := by
    intro X hP hw hK hc i pins s σ H E I hf st hg
    subst hP hw hK
    obtain ⟨xs, hq, hx⟩ := hg
    obtain ⟨its, rv, p, hz⟩ := I.list hq
    obtain ⟨f0, f1, f2, f3, f4, f5⟩ := hf it (by simp)
    have hl := rv.length
    exact wpAny_pyNext_list_end (I.ok.hd hc) st p.isList (by simp; omega) fun h' eb => ⟨rfl, I.turned (t' := s.toks) (fun b o hb e => eb b o hb e) f0 f1 f3 f4 f5⟩
  self := fun _ _ _ _ _ st h => wpAny_pyIter_listiter st h
theorem turn_tuple {P : Program} {w : World} {K : PySem.W.Frag} {tg : Expr} (a it : Addr) : Turn P w K tg (Itt K a) [it] it (fun i h => h.IsTupleIter it a i) where
  mem := by simp
  obj := fun i h st b hb => by
    have e : b = it := by simpa using hb
    subst e
    obtain ⟨o, e, c, d⟩ := st
    exact ⟨o, e, fun v z => by rw [d] at z; cases z⟩
  keep := fun i h h' st k => st.at fun o e => k it (by simp) o e
  item := by
    intro X hP hw hK hc i pins s σ H E I hf st hg
    subst hP hw hK
    obtain ⟨xs, x, hq, hx⟩ := hg
    obtain ⟨its, rv, p, hz⟩ := I.tuple hq
    obtain ⟨u, hu, ru⟩ := rv.get hx
    obtain ⟨f0, f1, f2, f3, f4, f5⟩ := hf it (by simp)
    refine wpAny_pyNext_tuple_item st (show s.heap.IsTuple a its.toArray from p) (x := u) (by simpa using hu) fun h' st' sb => ?_
    have I1 : Inv X pins σ H { s with heap := h' } := I.turned (t' := s.toks) (fun b o hb e => (sb.2 b hb).trans e) f0 f1 f3 f4 f5
    obtain ⟨o, e, c, d⟩ := id st'
    exact ⟨u, rfl, go_of (s := { s with heap := h' }) e c d (by decide) ⟨x, H, I1, ru, ⟨rfl, fun ys hy => by rw [I.tuple_inj hy hq]; exact hx⟩, st', fun b hb => (hf b hb).1⟩⟩
  done := by
    intro X hP hw hK hc i pins s σ H E I hf st hg
    subst hP hw hK
    obtain ⟨xs, hq, hx⟩ := hg
    obtain ⟨its, rv, p, hz⟩ := I.tuple hq
    obtain ⟨f0, f1, f2, f3, f4, f5⟩ := hf it (by simp)
    have hl := rv.length
    exact wpAny_pyNext_tuple_end (I.ok.hd hc) st (show s.heap.IsTuple a its.toArray from p) (by simp; omega) fun h' eb => ⟨rfl, I.turned (t' := s.toks) (fun b o hb e => eb b o hb e) f0 f1 f3 f4 f5⟩
  self := fun _ _ _ _ _ st h => wpAny_pyIter_tupleiter st h
theorem turn_range {P : Program} {w : World} {K : PySem.W.Frag} {tg : Expr} (it : Addr) (lo : Int) (n : Nat) : Turn P w K tg (Itr lo n) [it] it (fun i h => IsRangeIter h it (lo + (i : Nat) * 1) ((n : Int) - (i : Nat)) 1) where
  mem := by simp
  obj := fun i h st b hb => by
    have e : b = it := by simpa using hb
    subst e
    exact ⟨_, st, fun v z => by
      have z' : Data.fields _ = Data.cell v := z
      cases z'⟩
  keep := fun i h h' st k => k it (by simp) _ st
  item := by
    intro X hP hw hK hc i pins s σ H E I hf st hg
    subst hP hw hK
    obtain ⟨f0, f1, f2, f3, f4, f5⟩ := hf it (by simp)
    have W := Walks.range (prog := X.prog) (w := X.w) (I.ok.hd hc) it lo 1 n
    refine W.item i s _ _ hg st fun v h' tk hv st' kk => ?_
    obtain ⟨t, rfl⟩ := hv
    have I1 : Inv X pins σ H { s with heap := h', toks := tk } := I.turned (fun b o hb e => kk b o (by simpa using hb) e) f0 f1 f3 f4 f5
    refine ⟨_, rfl, go_of (s := { s with heap := h', toks := tk }) (n := "range_iterator") st' rfl rfl (by decide) ⟨.int (lo + i), H, I1, ⟨t, ?_⟩, ⟨rfl, rfl⟩, st', fun b hb => (hf b hb).1⟩⟩
    rw [Int.mul_one]
  done := by
    intro X hP hw hK hc i pins s σ H E I hf st hg
    subst hP hw hK
    obtain ⟨f0, f1, f2, f3, f4, f5⟩ := hf it (by simp)
    exact wpAny_pyNext_range_end (I.ok.hd hc) st (by have : n ≤ i := hg; omega) fun h' eb => ⟨rfl, I.turned (t' := s.toks) (fun b o hb e => eb b o hb e) f0 f1 f3 f4 f5⟩
  self := fun _ _ _ _ _ st h => wpAny_pyIter_rangeiter st h
end L2
namespace L2
open PySem PySem.Spec PyProof.Rows
section
variable {X : Cx} {tg : Expr}
def iList (K : PySem.W.Frag) (tl : TE) : TI := fun σ H R => tl σ H fun x H1 => ∃ a, x = .ref a ∧ (∃ xs, SqL K H1 a xs) ∧ R (Itl K a) H1
def iTup (K : PySem.W.Frag) (tl : TE) : TI := fun σ H R => tl σ H fun x H1 => ∃ a, x = .ref a ∧ (∃ xs, SqT K H1 a xs) ∧ R (Itt K a) H1
theorem pi_list {l : Expr} {tl : TE} (hl : PE X l tl) : PI X tg l (iList X.K tl) := by
  intro pins s σ H R I h
  refine thn (hl pins s σ H _ I h) fun v s1 ⟨x, H1, I1, r1, q1⟩ => ?_
  obtain ⟨a, e, ⟨xs, hq⟩, q⟩ := q1
  subst e
  cases r1
  obtain ⟨its, rv, p, hz⟩ := I1.list hq
  refine wpAny_pyIter_list p.isList ?_
  refine ⟨s1.heap.objs.size, [s1.heap.objs.size], _, _, H1, rfl, I1.kept (t' := s1.toks) fun b o e => Heap.get?_push_of_some _ e, turn_list a _, ⟨_, Heap.get?_push_size _ rfl, rfl, rfl⟩, fun b hb => ?_, q⟩
  have e : b = s1.heap.objs.size := by simpa using hb
  subst e
  exact I1.fpOk (Nat.le_refl _) (I1.hok.fresh (Nat.le_refl _))
theorem pi_tup {l : Expr} {tl : TE} (hl : PE X l tl) : PI X tg l (iTup X.K tl) := by
  intro pins s σ H R I h
  refine thn (hl pins s σ H _ I h) fun v s1 ⟨x, H1, I1, r1, q1⟩ => ?_
  obtain ⟨a, e, ⟨xs, hq⟩, q⟩ := q1
  subst e
  cases r1
  obtain ⟨its, rv, p, hz⟩ := I1.tuple hq
  refine wpAny_pyIter_tuple (show s1.heap.IsTuple a its.toArray from p) ?_
  refine ⟨s1.heap.objs.size, [s1.heap.objs.size], _, _, H1, rfl, I1.kept (t' := s1.toks) fun b o e => Heap.get?_push_of_some _ e, turn_tuple a _, ⟨_, Heap.get?_push_size _ rfl, rfl, rfl⟩, fun b hb => ?_, q⟩
  have e : b = s1.heap.objs.size := by simpa using hb
  subst e
  exact I1.fpOk (Nat.le_refl _) (I1.hok.fresh (Nat.le_refl _))
theorem range_it {pins : List (Addr × Obj)} {σ : St} {H : Hp} {s : Shared} {R : It → Hp → Prop} {E : Value → Shared → Prop} {lo hi : Int} {t u v : Tok} {tk : Nat} (I : Inv X pins σ H s) (h1 : -(2 ^ 62) ≤ lo) (h2 : lo < 2 ^ 62) (h3 : -(2 ^ 62) ≤ hi) (h4 : hi < 2 ^ 62)
    (q : R (Itr lo (hi - lo).toNat) H) : wpAny (model X.prog X.w) X.A (pyIter (.ref s.heap.objs.size)) (PIE X pins σ tg R) E { s with heap := s.heap.push { cls := .type "range", data := .fields #[.int lo t, .int hi u, .int 1 v] }, toks := tk } := by
  refine wpAny_pyIter_range (IsRange.new ..) (small_one h1 h2 h3 h4) ?_
  have I1 : Inv X pins σ H { s with heap := s.heap.push { cls := .type "range", data := .fields #[.int lo t, .int hi u, .int 1 v] }, toks := tk } := I.kept fun b o e => Heap.get?_push_of_some _ e
  refine ⟨(s.heap.push { cls := .type "range", data := .fields #[.int lo t, .int hi u, .int 1 v] }).objs.size, [(s.heap.push { cls := .type "range", data := .fields #[.int lo t, .int hi u, .int 1 v] }).objs.size], _, _, H, rfl,
    I1.kept (t' := tk) fun b o e => Heap.get?_push_of_some _ e, turn_range _ lo (hi - lo).toNat, ?_, fun b hb => ?_, q⟩
  · have e1 : lo + ((0 : Nat) : Int) * 1 = lo := by simp
    have e2 : (((hi - lo).toNat : Nat) : Int) - ((0 : Nat) : Int) = Builtin.Range.rangeSize lo hi 1 := by rw [rangeSize_one]; split <;> omega
    show IsRangeIter _ _ (lo + ((0 : Nat) : Int) * 1) ((((hi - lo).toNat : Nat) : Int) - ((0 : Nat) : Int)) 1
    rw [e1, e2]
    exact Heap.get?_push_size _ rfl
  · have e : b = (s.heap.push { cls := .type "range", data := .fields #[.int lo t, .int hi u, .int 1 v] }).objs.size := by simpa using hb
    subst e
    exact I1.fpOk (Nat.le_refl _) (I1.hok.fresh (Nat.le_refl _))
def iRng1 (ta : TA) : TI := fun σ H R => ta σ H fun vs H1 => ∃ j : Int, vs = [.int j] ∧ -(2 ^ 62) ≤ j ∧ j < 2 ^ 62 ∧ R (Itr 0 j.toNat) H1
theorem pi_range1 {a : Expr} {ta : TA} {p pos : Pos} (hg : Gl X "range") (hm : X.mg "range" = none) (ha : PA X [a] ta) (hs : starEach [a] X.env = [(false, eval a X.env)] := by rfl) : PI X tg (.Call (.Name "range" p) [a] [] pos) (iRng1 ta) := by
  intro pins s σ H R I h
  refine Call_ (ld_blt I hg hm boot_range (PyProof.Rows.callWith_type1 (thn (ha pos pins s σ H _ I h) fun us s1 ⟨vs, H1, I1, r1, q1⟩ => ?_) hs rfl))
  obtain ⟨j, e, q1, q2, q⟩ := q1
  subst e
  cases r1 with
  | cons r rr =>
    cases rr
    obtain ⟨t, rfl⟩ := r
    exact call_range_1 (range_it I1 (by omega) (by omega) q1 q2 (by simpa using q))
def tFor (wi : TI) (g : TG) (tb : TS) : TS := fun D σ H => wi σ H fun J H1 => ∃ W : Nat → Nat → St → Hp → Prop, (∃ m, W 0 m σ H1) ∧ ∀ i m σ H, W i m σ H →
  (J.stop i H ∧ D.nx σ H) ∨ (J.go i H ∧ ∃ N : St → Hp → Prop, (∀ σ' H', N σ' H' → ∃ m', m' < m ∧ W (i + 1) m' σ' H') ∧ ∀ x H', J.yld i H x H' → g x σ H' fun σ2 H2 => tb { D with nx := N, ct := N, bk := D.nx } σ2 H2)
def pinsAt (fp : List Addr) (h : Heap) : List (Addr × Obj) := fp.filterMap fun b => (h.get? b).map fun o => (b, o)
theorem mem_pinsAt {fp : List Addr} {h : Heap} {b : Addr} {o : Obj} (hb : b ∈ fp) (e : h.get? b = some o) : (b, o) ∈ pinsAt fp h := List.mem_filterMap.mpr ⟨b, hb, by rw [e]; rfl⟩
theorem of_pinsAt {fp : List Addr} {h : Heap} {p : Addr × Obj} (hp : p ∈ pinsAt fp h) : p.1 ∈ fp ∧ h.get? p.1 = some p.2 := by
  obtain ⟨b, hb, e⟩ := List.mem_filterMap.mp hp
  cases q : h.get? b with
  | none => rw [q] at e; cases e
  | some o =>
    rw [q] at e
    have e' : (b, o) = p := Option.some.inj e
    subst e'
    exact ⟨hb, q⟩
theorem Inv.pinned {pins : List (Addr × Obj)} {σ : St} {H : Hp} {s : Shared} {fp : List Addr} (I : Inv X pins σ H s) (hf : ∀ b ∈ fp, FpOk X pins H b) (ho : ∀ b ∈ fp, ∃ o, s.heap.get? b = some o ∧ ∀ v, o.data ≠ .cell v) : Inv X (pins ++ pinsAt fp s.heap) σ H s :=
  I.pins_of fun p hp => (List.mem_append.mp hp).elim (fun z => I.pin p (List.mem_append_right _ z)) fun z => by
    obtain ⟨hb, e⟩ := of_pinsAt z
    obtain ⟨f0, f1, f2, _⟩ := hf p.1 hb
    obtain ⟨o, e', d⟩ := ho p.1 hb
    rw [e] at e'; cases e'
    exact ⟨e, f0, f1, f2, d⟩
theorem Inv.unpinned {pins pl : List (Addr × Obj)} {σ : St} {H : Hp} {s : Shared} (I : Inv X (pins ++ pl) σ H s) : Inv X pins σ H s := I.pins_of fun p hp => I.pin p (List.mem_append_right _ (List.mem_append_left _ hp))
theorem ps_for {iter : Expr} {body : List Stmt} {wi : TI} {g : TG} {tb : TS} {pos : Pos} (hp : PassesOwn (model X.prog X.w) X.A X.env X.xe) (hc : X.calm = true) (hi : PI X tg iter wi) (hg : PG X tg g) (hb : PSs X body tb)
    (hs : ∀ x, foldedSetIterable iter X.env x = pure x := by intro _; rfl) : PS X (.For tg iter body [] pos) (tFor wi g tb) := by
  intro pins s σ H D I h
  refine wpAny_For (thn (hi pins s σ H _ I h) fun v s1 h1 => thn h1 fun itv s2 h2 => ?_) hs
  obtain ⟨it, fp, tn, J, H2, e, I2, T, st2, f2, W, ⟨m0, w0⟩, turn⟩ := h2
  subst e
  have stat : ∀ {H' : Hp}, (∀ b ∈ fp, H' b = none) → ∀ b ∈ fp, FpOk X pins H' b := fun hn b hb => ⟨hn b hb, (f2 b hb).2⟩
  refine codeAny_forLoop_any (fun n s' => ∃ i σ' H', Inv X pins σ' H' s' ∧ tn i s'.heap ∧ (∀ b ∈ fp, H' b = none) ∧ W i n σ' H') ?_ m0 ⟨0, σ, H2, I2, st2, fun b hb => (f2 b hb).1, w0⟩
  rintro n s3 ⟨i, σ3, H3, I3, st3, fr3, w3⟩
  rcases turn i n σ3 H3 w3 with ⟨stop, qn⟩ | ⟨go, N, hN, step⟩
  · refine wpAny_passesOwn hp (thn (T.done X rfl rfl rfl hc i pins s3 σ3 H3 X.xe I3 (stat fr3) st3 stop) fun r s4 ⟨hr, I4⟩ => ?_)
    subst hr
    exact wpAny_execs_nil ⟨σ3, H3, I4, qn⟩
  · refine wpAny_passesOwn hp (thn (T.item X rfl rfl rfl hc i pins s3 σ3 H3 X.xe I3 (stat fr3) st3 go) fun r s4 ⟨u, hr, h4⟩ => ?_)
    subst hr
    refine wpAny_passesOwn hp (thn h4 fun _ s5 ⟨x, H5, I5, r5, y5, st5, fr5⟩ => ?_)
    have I5' := I5.pinned (stat fr5) (T.obj _ _ st5)
    refine wpAny_passesOwn hp (thn (hg _ s5 σ3 H5 x u _ I5' r5 (step x H5 y5)) fun _ s6 ⟨σ6, H6, I6, q6⟩ => ?_)
    refine wpAny_passesOwn hp (thn (hb _ s6 σ6 H6 _ I6 q6) fun f s7 q7 => ?_)
    have again : ∀ {σ7 : St} {H7 : Hp}, Inv X (pins ++ pinsAt fp s5.heap) σ7 H7 s7 → N σ7 H7 → ∃ m, m < n ∧ ∃ i σ' H', Inv X pins σ' H' s7 ∧ tn i s7.heap ∧ (∀ b ∈ fp, H' b = none) ∧ W i m σ' H' := fun {σ7 H7} I7 n7 => by
      obtain ⟨m', hm, w7⟩ := hN σ7 H7 n7
      refine ⟨m', hm, i + 1, σ7, H7, I7.unpinned, T.keep _ _ _ st5 fun b hb o e => (I7.pin (b, o) (List.mem_append_right _ (List.mem_append_right _ (mem_pinsAt hb e)))).1, fun b hb => ?_, w7⟩
      obtain ⟨o, e, d⟩ := T.obj _ _ st5 b hb
      exact (I7.pin (b, o) (List.mem_append_right _ (List.mem_append_right _ (mem_pinsAt hb e)))).2.1
    cases f with
    | next => obtain ⟨σ7, H7, I7, n7⟩ := q7; exact again I7 n7
    | cont => obtain ⟨σ7, H7, I7, n7⟩ := q7; exact again I7 n7
    | brk => obtain ⟨σ7, H7, I7, q7⟩ := q7; exact ⟨σ7, H7, I7.unpinned, q7⟩
    | ret v => obtain ⟨x7, σ7, H7, I7, r7, q7⟩ := q7; exact ⟨x7, σ7, H7, I7.unpinned, r7, q7⟩
end
theorem for_list {K : PySem.W.Frag} {a : Addr} {xs : List V} {g : TG} {tb : TS} {D : Ends} {σ : St} {H : Hp} (Pv : Nat → St → Hp → Prop) (h0 : Pv 0 σ H) (hl : ∀ i σ H, i ≤ xs.length → Pv i σ H → SqL K H a xs)
    (hs : ∀ i x σ H, xs[i]? = some x → Pv i σ H → g x σ H fun σ2 H2 => tb { D with nx := Pv (i + 1), ct := Pv (i + 1), bk := D.nx } σ2 H2) (hd : ∀ σ H, Pv xs.length σ H → D.nx σ H) :
    ∃ W : Nat → Nat → St → Hp → Prop, (∃ m, W 0 m σ H) ∧ ∀ i m σ H, W i m σ H →
      ((Itl K a).stop i H ∧ D.nx σ H) ∨ ((Itl K a).go i H ∧ ∃ N : St → Hp → Prop, (∀ σ' H', N σ' H' → ∃ m', m' < m ∧ W (i + 1) m' σ' H') ∧ ∀ x H', (Itl K a).yld i H x H' → g x σ H' fun σ2 H2 => tb { D with nx := N, ct := N, bk := D.nx } σ2 H2) := by
  refine ⟨fun i m σ H => m = xs.length - i ∧ i ≤ xs.length ∧ Pv i σ H, ⟨xs.length, by simp, Nat.zero_le _, h0⟩, ?_⟩
  rintro i m σ H ⟨rfl, hi, p⟩
  have q := hl i σ H hi p
  by_cases hlt : i < xs.length
  · refine .inr ⟨⟨xs, xs[i], q, by simp [hlt]⟩, Pv (i + 1), fun σ' H' p' => ⟨xs.length - (i + 1), by omega, rfl, hlt, p'⟩, fun x H' y => ?_⟩
    obtain ⟨e, y⟩ := y
    subst e
    exact hs i x σ _ (y xs q) p
  · have e : i = xs.length := by omega
    subst e
    exact .inl ⟨⟨xs, q, Nat.le_refl _⟩, hd σ H p⟩
theorem for_tup {K : PySem.W.Frag} {a : Addr} {xs : List V} {g : TG} {tb : TS} {D : Ends} {σ : St} {H : Hp} (Pv : Nat → St → Hp → Prop) (h0 : Pv 0 σ H) (hl : ∀ i σ H, i ≤ xs.length → Pv i σ H → SqT K H a xs)
    (hs : ∀ i x σ H, xs[i]? = some x → Pv i σ H → g x σ H fun σ2 H2 => tb { D with nx := Pv (i + 1), ct := Pv (i + 1), bk := D.nx } σ2 H2) (hd : ∀ σ H, Pv xs.length σ H → D.nx σ H) :
    ∃ W : Nat → Nat → St → Hp → Prop, (∃ m, W 0 m σ H) ∧ ∀ i m σ H, W i m σ H →
      ((Itt K a).stop i H ∧ D.nx σ H) ∨ ((Itt K a).go i H ∧ ∃ N : St → Hp → Prop, (∀ σ' H', N σ' H' → ∃ m', m' < m ∧ W (i + 1) m' σ' H') ∧ ∀ x H', (Itt K a).yld i H x H' → g x σ H' fun σ2 H2 => tb { D with nx := N, ct := N, bk := D.nx } σ2 H2) := by
  refine ⟨fun i m σ H => m = xs.length - i ∧ i ≤ xs.length ∧ Pv i σ H, ⟨xs.length, by simp, Nat.zero_le _, h0⟩, ?_⟩
  rintro i m σ H ⟨rfl, hi, p⟩
  have q := hl i σ H hi p
  by_cases hlt : i < xs.length
  · refine .inr ⟨⟨xs, xs[i], q, by simp [hlt]⟩, Pv (i + 1), fun σ' H' p' => ⟨xs.length - (i + 1), by omega, rfl, hlt, p'⟩, fun x H' y => ?_⟩
    obtain ⟨e, y⟩ := y
    subst e
    exact hs i x σ _ (y xs q) p
  · have e : i = xs.length := by omega
    subst e
    exact .inl ⟨⟨xs, q, Nat.le_refl _⟩, hd σ H p⟩
theorem for_range {lo : Int} {n : Nat} {g : TG} {tb : TS} {D : Ends} {σ : St} {H : Hp} (Pv : Nat → St → Hp → Prop) (h0 : Pv 0 σ H)
    (hs : ∀ i σ H, i < n → Pv i σ H → g (.int (lo + i)) σ H fun σ2 H2 => tb { D with nx := Pv (i + 1), ct := Pv (i + 1), bk := D.nx } σ2 H2) (hd : ∀ σ H, Pv n σ H → D.nx σ H) :
    ∃ W : Nat → Nat → St → Hp → Prop, (∃ m, W 0 m σ H) ∧ ∀ i m σ H, W i m σ H →
      ((Itr lo n).stop i H ∧ D.nx σ H) ∨ ((Itr lo n).go i H ∧ ∃ N : St → Hp → Prop, (∀ σ' H', N σ' H' → ∃ m', m' < m ∧ W (i + 1) m' σ' H') ∧ ∀ x H', (Itr lo n).yld i H x H' → g x σ H' fun σ2 H2 => tb { D with nx := N, ct := N, bk := D.nx } σ2 H2) := by
  refine ⟨fun i m σ H => m = n - i ∧ i ≤ n ∧ Pv i σ H, ⟨n, by simp, Nat.zero_le _, h0⟩, ?_⟩
  rintro i m σ H ⟨rfl, hi, p⟩
  by_cases hlt : i < n
  · refine .inr ⟨hlt, Pv (i + 1), fun σ' H' p' => ⟨n - (i + 1), by omega, rfl, hlt, p'⟩, fun x H' y => ?_⟩
    obtain ⟨e, y⟩ := y
    subst e y
    exact hs i σ _ hlt p
  · have e : i = n := by omega
    subst e
    exact .inl ⟨Nat.le_refl _, hd σ H p⟩
end L2
namespace L2
open PySem PySem.Spec PyProof.Rows
abbrev R2 := V → V → Hp → VK → Prop
def OpR (X : Cx) (f : Value → Value → Sem Value) (r : R2) : Prop :=
  ∀ (pins : List (Addr × Obj)) (s : Shared) (σ : St) (H : Hp) (x y : V) (v u : Value) (Q : VK), Inv X pins σ H s → RelV x v → RelV y u → r x y H Q →
    wpAny (model X.prog X.w) X.A (f v u) (EP X pins σ Q) X.xe s
def CallR (X : Cx) (f : Value) (r : List V → Hp → VK → Prop) : Prop :=
  ∀ (pins : List (Addr × Obj)) (s : Shared) (σ : St) (H : Hp) (xs : List V) (us : List Value) (Q : VK), Inv X pins σ H s → Vals xs us → r xs H Q →
    wpAny (model X.prog X.w) X.A (call f us) (EP X pins σ Q) X.xe s
def TruR (X : Cx) (r : V → Hp → (Bool → Hp → Prop) → Prop) : Prop :=
  ∀ (pins : List (Addr × Obj)) (s : Shared) (σ : St) (H : Hp) (x : V) (v : Value) (Q : Bool → Hp → Prop), Inv X pins σ H s → RelV x v → r x H Q →
    wpAny (model X.prog X.w) X.A (truthy v) (TP X pins σ Q) X.xe s
def tOp (r : R2) (ta tb : TE) : TE := fun σ H Q => ta σ H fun x H1 => tb σ H1 fun y H2 => r x y H2 Q
def rI (C : Int → Int → Prop) (g : Int → Int → V) : R2 := fun x y H Q => ∃ i j, x = .int i ∧ y = .int j ∧ C i j ∧ Q (g i j) H
def rI0 (g : Int → Int → V) : R2 := fun x y H Q => ∃ i j, x = .int i ∧ y = .int j ∧ Q (g i j) H
section
variable {X : Cx} {a b c : Expr} {ta tb tc : TE} {pos : Pos}
theorem binT (ha : PE X a ta) (hb : PE X b tb) {pins : List (Addr × Obj)} {s : Shared} {σ : St} {H : Hp} {R : V → V → Hp → Prop} (I : Inv X pins σ H s)
    (h : ta σ H fun x H1 => tb σ H1 fun y H2 => R x y H2) {Q : Value → Shared → Prop} {f : Value → Value → Sem Value}
    (hf : ∀ v u s2 x y H2, Inv X pins σ H2 s2 → RelV x v → RelV y u → R x y H2 → wpAny (model X.prog X.w) X.A (f v u) Q X.xe s2) :
    wpAny (model X.prog X.w) X.A (eval a X.env) (fun v s₁ => wpAny (model X.prog X.w) X.A (eval b X.env) (fun u s₂ => wpAny (model X.prog X.w) X.A (f v u) Q X.xe s₂) X.xe s₁) X.xe s := by
  refine thn (ha pins s σ H _ I h) fun v s1 ⟨x, H1, I1, r1, q1⟩ => ?_
  refine thn (hb pins s1 σ H1 _ I1 q1) fun u s2 ⟨y, H2, I2, r2, q2⟩ => ?_
  exact hf v u s2 x y H2 I2 r1 r2 q2
theorem pe_op {op : Operator} {r : R2} (ho : OpR X (binaryOp op) r) (ha : PE X a ta) (hb : PE X b tb) : PE X (.BinOp a op b pos) (tOp r ta tb) := by
  intro pins s σ H Q I h
  exact wpAny_BinOp (binT ha hb I h fun v u s2 x y H2 I2 rx ry q => ho pins s2 σ H2 x y v u Q I2 rx ry q)
theorem opI {f : Value → Value → Sem Value} {C : Int → Int → Prop} {g : Int → Int → Int}
    (rule : ∀ (i j : Int) (t u : Tok) (s : Shared) (Q : Value → Shared → Prop) (E : Value → Shared → Prop), C i j → Q (.int (g i j) s.toks) { s with toks := s.toks + 1 } → wpAny (model X.prog X.w) X.A (f (.int i t) (.int j u)) Q E s) :
    OpR X f (rI C fun i j => .int (g i j)) := by
  intro pins s σ H x y v u Q I rx ry h
  obtain ⟨i, j, rfl, rfl, hc, q⟩ := h
  obtain ⟨t, rfl⟩ := rx
  obtain ⟨t', rfl⟩ := ry
  exact rule i j t t' s _ _ hc ⟨.int (g i j), H, I.tok _, ⟨_, rfl⟩, q⟩
theorem opI0 {f : Value → Value → Sem Value} {g : Int → Int → Int}
    (rule : ∀ (i j : Int) (t u : Tok) (s : Shared) (Q : Value → Shared → Prop) (E : Value → Shared → Prop), Q (.int (g i j) s.toks) { s with toks := s.toks + 1 } → wpAny (model X.prog X.w) X.A (f (.int i t) (.int j u)) Q E s) :
    OpR X f (rI0 fun i j => .int (g i j)) := by
  intro pins s σ H x y v u Q I rx ry h
  obtain ⟨i, j, rfl, rfl, q⟩ := h
  obtain ⟨t, rfl⟩ := rx
  obtain ⟨t', rfl⟩ := ry
  exact rule i j t t' s _ _ ⟨.int (g i j), H, I.tok _, ⟨_, rfl⟩, q⟩
theorem opB0 {f : Value → Value → Sem Value} {g : Int → Int → Bool}
    (rule : ∀ (i j : Int) (t u : Tok) (s : Shared) (Q : Value → Shared → Prop) (E : Value → Shared → Prop), Q (.bool (g i j)) s → wpAny (model X.prog X.w) X.A (f (.int i t) (.int j u)) Q E s) :
    OpR X f (rI0 fun i j => .bl (g i j)) := by
  intro pins s σ H x y v u Q I rx ry h
  obtain ⟨i, j, rfl, rfl, q⟩ := h
  obtain ⟨t, rfl⟩ := rx
  obtain ⟨t', rfl⟩ := ry
  exact rule i j t t' s _ _ ⟨.bl (g i j), H, I, rfl, q⟩
def CDiv (i j : Int) : Prop := 0 < j ∧ j < 1073741824
def CMul (i j : Int) : Prop := (-(2 ^ 64) < i ∧ i < 2 ^ 64) ∨ (-(2 ^ 64) < j ∧ j < 2 ^ 64)
theorem CMul.ok {i j : Int} (h : CMul i j) : IntMulOk i j := by
  rcases h with ⟨h1, h2⟩ | ⟨h1, h2⟩
  · exact .of_left (intBits_le_64 h1 h2)
  · exact .of_right (intBits_le_64 h1 h2)
theorem op_add : OpR X (binaryOp .Add) (rI0 fun i j => .int (i + j)) := opI0 fun _ _ _ _ _ _ _ q => add_int q
theorem op_sub : OpR X (binaryOp .Sub) (rI0 fun i j => .int (i - j)) := opI0 fun _ _ _ _ _ _ _ q => sub_int q
theorem op_mul : OpR X (binaryOp .Mult) (rI CMul fun i j => .int (i * j)) := opI fun _ _ _ _ _ _ _ hc q => mul_int q hc.ok
theorem op_fdiv : OpR X (binaryOp .FloorDiv) (rI CDiv fun i j => .int (i / j)) := opI fun i j _ _ _ _ _ hc q => by
  have h1 : (0 : Int) < j := hc.1
  have h2 : j < 1073741824 := hc.2
  exact floordiv_int (by omega) (by rw [Int.fdiv_eq_ediv_of_nonneg i (by omega)]; exact q) (.inl (PyProof.noPylong_small (by omega)))
theorem op_mod : OpR X (binaryOp .Mod) (rI (fun _ j => 0 < j) fun i j => .int (i % j)) := opI fun i j _ _ _ _ _ hc q => by
  have h1 : (0 : Int) < j := hc
  exact mod_int' (by omega) (by rw [Int.fmod_eq_emod_of_nonneg i (by omega)]; exact q)
end
def scal : V → V → Bool
  | .non, .non => true | .non, .int _ => true | .int _, .non => true | .non, .bl _ => true | .bl _, .non => true | .non, .str _ => true | .str _, .non => true
  | .int _, .int _ => true | .bl _, .bl _ => true | .str _, .str _ => true | .byt _, .byt _ => true
  | .int _, .str _ => true | .str _, .int _ => true | .bl _, .str _ => true | .str _, .bl _ => true
  | _, _ => false
def rEq : R2 := fun x y H Q => scal x y = true ∧ Q (.bl (decide (x = y))) H
def rNe : R2 := fun x y H Q => scal x y = true ∧ Q (.bl (!decide (x = y))) H
theorem dec_int {i j : Int} : decide (V.int i = V.int j) = (i == j) := by
  rw [Bool.eq_iff_iff]
  simp
theorem dec_bl {i j : Bool} : decide (V.bl i = V.bl j) = (i == j) := by
  rw [Bool.eq_iff_iff]
  simp
theorem dec_str {i j : Str} : decide (V.str i = V.str j) = (i == j) := by
  rw [Bool.eq_iff_iff]
  simp
theorem dec_byt {i j : Array UInt8} : decide (V.byt i = V.byt j) = (i.toList == j.toList) := by
  rw [Bool.eq_iff_iff]
  cases i
  cases j
  simp
section
variable {X : Cx} {a b c : Expr} {ta tb tc : TE} {pos : Pos}
theorem fin_bl {pins : List (Addr × Obj)} {σ : St} {H : Hp} {s : Shared} {Q : VK} {k k' : Bool} (I : Inv X pins σ H s) (q : Q (.bl k) H) (e : k = k') : EP X pins σ Q (.bool k') s := by
  subst e
  exact ⟨.bl k, H, I, rfl, q⟩
theorem op_eq : OpR X (compareOp .Eq) rEq := by
  intro pins s σ H x y v u Q I rx ry h
  obtain ⟨hs, q⟩ := h
  cases x with
  | non =>
    cases rx
    cases y with
    | non => cases ry; exact PySem.EqNone.eq_none_none (fin_bl I q (by simp))
    | bl j => cases ry; exact PySem.EqNone.eq_none_bool (fin_bl I q (by simp))
    | int j => obtain ⟨t', rfl⟩ := ry; exact PySem.EqNone.eq_none_int (fin_bl I q (by simp))
    | str j => obtain ⟨t', rfl⟩ := ry; exact PySem.EqNone.eq_none_str (fin_bl I q (by simp))
    | _ => exact absurd (show false = true from hs) Bool.false_ne_true
  | bl i =>
    cases rx
    cases y with
    | non => cases ry; exact PySem.EqNone.eq_bool_none (fin_bl I q (by simp))
    | bl j => cases ry; exact eq_bool (fin_bl I q dec_bl)
    | str j => obtain ⟨t', rfl⟩ := ry; exact PySem.EqMixed.eq_bool_str (fin_bl I q (by simp))
    | _ => exact absurd (show false = true from hs) Bool.false_ne_true
  | int i =>
    obtain ⟨t, rfl⟩ := rx
    cases y with
    | non => cases ry; exact PySem.EqNone.eq_int_none (fin_bl I q (by simp))
    | int j => obtain ⟨t', rfl⟩ := ry; exact eq_int (fin_bl I q dec_int)
    | str j => obtain ⟨t', rfl⟩ := ry; exact PySem.EqMixed.eq_int_str (fin_bl I q (by simp))
    | _ => exact absurd (show false = true from hs) Bool.false_ne_true
  | str i =>
    obtain ⟨t, rfl⟩ := rx
    cases y with
    | non => cases ry; exact PySem.EqNone.eq_str_none (fin_bl I q (by simp))
    | bl j => cases ry; exact PySem.EqMixed.eq_str_bool (fin_bl I q (by simp))
    | int j => obtain ⟨t', rfl⟩ := ry; exact PySem.EqMixed.eq_str_int (fin_bl I q (by simp))
    | str j => obtain ⟨t', rfl⟩ := ry; exact eq_str (fin_bl I q dec_str)
    | _ => exact absurd (show false = true from hs) Bool.false_ne_true
  | byt i =>
    obtain ⟨t, rfl⟩ := rx
    cases y with
    | byt j => obtain ⟨t', rfl⟩ := ry; exact PySem.W.eq_bytes (fin_bl I q dec_byt)
    | _ => exact absurd (show false = true from hs) Bool.false_ne_true
  | _ => cases y <;> exact absurd (show false = true from hs) Bool.false_ne_true
theorem op_ne : OpR X (compareOp .NotEq) rNe := by
  intro pins s σ H x y v u Q I rx ry h
  obtain ⟨hs, q⟩ := h
  cases x with
  | non =>
    cases rx
    cases y with
    | non => cases ry; exact PySem.EqNone.ne_none_none (fin_bl I q (by simp))
    | bl j => cases ry; exact PySem.EqNone.ne_none_bool (fin_bl I q (by simp))
    | int j => obtain ⟨t', rfl⟩ := ry; exact PySem.EqNone.ne_none_int (fin_bl I q (by simp))
    | str j => obtain ⟨t', rfl⟩ := ry; exact PySem.EqNone.ne_none_str (fin_bl I q (by simp))
    | _ => exact absurd (show false = true from hs) Bool.false_ne_true
  | bl i =>
    cases rx
    cases y with
    | non => cases ry; exact PySem.EqNone.ne_bool_none (fin_bl I q (by simp))
    | bl j => cases ry; exact ne_bool (fin_bl I q (congrArg not dec_bl))
    | str j => obtain ⟨t', rfl⟩ := ry; exact PySem.EqMixed.ne_bool_str (fin_bl I q (by simp))
    | _ => exact absurd (show false = true from hs) Bool.false_ne_true
  | int i =>
    obtain ⟨t, rfl⟩ := rx
    cases y with
    | non => cases ry; exact PySem.EqNone.ne_int_none (fin_bl I q (by simp))
    | int j => obtain ⟨t', rfl⟩ := ry; exact ne_int (fin_bl I q (congrArg not dec_int))
    | str j => obtain ⟨t', rfl⟩ := ry; exact PySem.EqMixed.ne_int_str (fin_bl I q (by simp))
    | _ => exact absurd (show false = true from hs) Bool.false_ne_true
  | str i =>
    obtain ⟨t, rfl⟩ := rx
    cases y with
    | non => cases ry; exact PySem.EqNone.ne_str_none (fin_bl I q (by simp))
    | bl j => cases ry; exact PySem.EqMixed.ne_str_bool (fin_bl I q (by simp))
    | int j => obtain ⟨t', rfl⟩ := ry; exact PySem.EqMixed.ne_str_int (fin_bl I q (by simp))
    | str j => obtain ⟨t', rfl⟩ := ry; exact ne_str (fin_bl I q (congrArg not dec_str))
    | _ => exact absurd (show false = true from hs) Bool.false_ne_true
  | byt i =>
    obtain ⟨t, rfl⟩ := rx
    cases y with
    | byt j => obtain ⟨t', rfl⟩ := ry; exact PySem.W.ne_bytes (fin_bl I q (congrArg not dec_byt))
    | _ => exact absurd (show false = true from hs) Bool.false_ne_true
  | _ => cases y <;> exact absurd (show false = true from hs) Bool.false_ne_true
theorem op_lt : OpR X (compareOp .Lt) (rI0 fun i j => .bl (decide (i < j))) := opB0 fun _ _ _ _ _ _ _ q => lt_int q
theorem op_gt : OpR X (compareOp .Gt) (rI0 fun i j => .bl (decide (j < i))) := opB0 fun _ _ _ _ _ _ _ q => gt_int q
theorem op_isN : OpR X (compareOp .Is) (fun x y H Q => y = .non ∧ Q (.bl (decide (x = .non))) H) := by
  intro pins s σ H x y v u Q I rx ry h
  obtain ⟨rfl, q⟩ := h
  cases ry
  refine is_none_gen (fin_bl I q ?_)
  cases x <;> first
    | (cases rx; rfl)
    | (obtain ⟨t, rfl⟩ := rx; rfl)
theorem nomark (b : Expr) {op : CmpOp} (h : op ≠ .In := by decide) (h2 : op ≠ .NotIn := by decide) : behindInMarks op b = false := by
  have e1 : (op == CmpOp.In) = false := by cases op <;> first | rfl | exact absurd rfl h
  have e2 : (op == CmpOp.NotIn) = false := by cases op <;> first | rfl | exact absurd rfl h2
  cases b <;> simp [behindInMarks, e1, e2]
theorem pe_cmpR {op : CmpOp} {r : R2} (ho : OpR X (compareOp op) r) (ha : PE X a ta) (hb : PE X b tb) (hm : behindInMarks op b = false) : PE X (.Compare a [op] [b] pos) (tOp r ta tb) := by
  intro pins s σ H Q I h
  exact wpAny_Compare1 (binT ha hb I h fun v u s2 x y H2 I2 rx ry q => ho pins s2 σ H2 x y v u Q I2 rx ry q) hm
def tTest (t : TE) : TT := fun σ H Q => t σ H fun x H' => ∃ k, x = .bl k ∧ Q k H'
theorem pt_cmpR {op : CmpOp} {r : R2} (ho : OpR X (compareOp op) r) (ha : PE X a ta) (hb : PE X b tb) (hm : behindInMarks op b = false) : PT X (.Compare a [op] [b] pos) (tTest (tOp r ta tb)) := by
  intro pins s σ H Q I h
  refine wpAny_isTrue_Compare1 (thn (ha pins s σ H _ I h) fun v s1 ⟨x, H1, I1, r1, q1⟩ => thn (hb pins s1 σ H1 _ I1 q1) fun u s2 ⟨y, H2, I2, r2, q2⟩ =>
    thn (ho pins s2 σ H2 x y v u _ I2 r1 r2 q2) fun c s3 ⟨z, H3, I3, r3, k, e, q3⟩ => ?_) hm
  subst e
  cases r3
  exact wpAny_truthy_bool ⟨H3, I3, q3⟩
def TruV (K : PySem.W.Frag) (x : V) (H : Hp) (k : Bool) : Prop :=
  match x with
  | .non => k = false
  | .bl b => k = b
  | .int i => k = (i != 0)
  | .str y => y.length ≤ sizeLine ∧ k = ((y.length : Int) != 0)
  | .byt y => y.size ≤ sizeLine ∧ k = ((y.size : Int) != 0)
  | .ref p => (∃ xs, SqL K H p xs ∧ k = !xs.isEmpty) ∨ (∃ xs, SqT K H p xs ∧ k = !xs.isEmpty) ∨ ∃ kvs, H p = some (.dK kvs) ∧ k = !kvs.isEmpty
  | _ => False
theorem isEmpty_kv {κ : Type} {kvs : List (κ × V)} {vs : List (κ × Value)} (r : KV kvs vs) : (!vs.isEmpty) = !kvs.isEmpty := by
  cases r <;> rfl
theorem isEmpty_of {xs : List V} {its : List Value} (r : Vals xs its) : (!its.toArray.isEmpty) = !xs.isEmpty := by
  cases r <;> simp
theorem line63 : (sizeLine : Nat) < 2 ^ 63 := by rw [sizeLine_eq]; decide
theorem tru_ok : TruR X (fun x H Q => ∃ k, TruV X.K x H k ∧ Q k H) := by
  intro pins s σ H x v Q I rx h
  obtain ⟨k, e, q⟩ := h
  have hl := line63
  have hs : sizeLine = 16777216 := sizeLine_eq
  cases x with
  | non =>
    cases rx
    have e' : k = false := e
    subst e'
    exact truthy_none ⟨H, I, q⟩
  | bl b =>
    cases rx
    have e' : k = b := e
    subst e'
    exact wpAny_truthy_bool ⟨H, I, q⟩
  | int i =>
    obtain ⟨t, rfl⟩ := rx
    have e' : k = (i != 0) := e
    subst e'
    exact PySem.P.truthy_int ⟨H, I, q⟩
  | str y =>
    obtain ⟨t, rfl⟩ := rx
    obtain ⟨hy, e'⟩ : y.length ≤ sizeLine ∧ k = ((y.length : Int) != 0) := e
    subst e'
    exact PySem.P.truthy_str (by omega) ⟨H, I.tok _, q⟩
  | byt y =>
    obtain ⟨t, rfl⟩ := rx
    obtain ⟨hy, e'⟩ : y.size ≤ sizeLine ∧ k = ((y.size : Int) != 0) := e
    subst e'
    exact PySem.W.truthy_bytes (by omega) ⟨H, I.tok _, q⟩
  | ref p =>
    cases rx
    have e' : (∃ xs, SqL X.K H p xs ∧ k = !xs.isEmpty) ∨ (∃ xs, SqT X.K H p xs ∧ k = !xs.isEmpty) ∨ ∃ kvs, H p = some (.dK kvs) ∧ k = !kvs.isEmpty := e
    rcases e' with ⟨xs, hx, e'⟩ | ⟨xs, hx, e'⟩ | ⟨kvs, hx, e'⟩
    · subst e'
      obtain ⟨its, r, pl, hz⟩ := I.list hx
      have hlen := r.length
      exact wpAny_truthy_list pl.isList (by simp only [List.size_toArray]; omega) ⟨H, I.tok _, by rw [isEmpty_of r]; exact q⟩
    · subst e'
      obtain ⟨its, r, pl, hz⟩ := I.tuple hx
      have hlen := r.length
      exact truthy_tuple pl (by simp only [List.size_toArray]; omega) ⟨H, I.tok _, by rw [isEmpty_of r]; exact q⟩
    · subst e'
      obtain ⟨hz, hS, vs, r, m⟩ : kvs.length ≤ sizeLine ∧ (p == sysModules) = false ∧ ∃ vs, KV kvs vs ∧ s.heap.DictOf (mixKind X.prog X.w) p vs := I.hok p _ hx
      have hlen : kvs.length = vs.length := Paired.length r
      exact wpAny_truthy_dict hS m (by omega) ⟨H, I.tok _, by rw [isEmpty_kv r]; exact q⟩
  | _ => exact (show False from e).elim
theorem pt_truth (ha : PE X a ta) (he : ∀ whole, isTrue a X.env whole = (do let v ← whole; standAt a.pos; holding [v] (truthy v))) :
    PT X a (fun σ H Q => ta σ H fun x H' => ∃ k, TruV X.K x H' k ∧ Q k H') := by
  intro pins s σ H Q I h
  exact isTrue_plain (thn (ha pins s σ H _ I h) fun v s1 ⟨x, H1, I1, r1, q1⟩ => tru_ok pins s1 σ H1 x v Q I1 r1 q1) (he _)
theorem vals1 {x : V} {us : List Value} (r : Vals [x] us) : ∃ u, us = [u] ∧ RelV x u := by
  cases r with
  | cons r1 r2 => cases r2; exact ⟨_, rfl, r1⟩
theorem vals2 {x y : V} {us : List Value} (r : Vals [x, y] us) : ∃ u w', us = [u, w'] ∧ RelV x u ∧ RelV y w' := by
  cases r with
  | cons r1 r2 =>
    cases r2 with
    | cons r3 r4 => cases r4; exact ⟨_, _, rfl, r1, r3⟩
end
end L2
namespace L2
open PySem PySem.Spec PyProof.Rows
structure ObjM (h : Heap) (x dx C : Addr) (mA : Str → Option Value) : Prop where
  obj : h.get? x = some (PySem.W.instObj C dx)
  ns : h.Ns1 dx mA
  ne : dx ≠ x
theorem lookIn_ns {h : Heap} {dx : Addr} {mA : Str → Option Value} (n : h.Ns1 dx mA) : ∃ od, h.get? dx = some od ∧ ∀ name, PySem.W.lookIn name od = some (mA name) := by
  obtain ⟨o, es, ep, ho, hd, hk, _, hm⟩ := n
  refine ⟨o, ho, fun name => ?_⟩
  have e := hm name
  unfold nsFind findBy at e
  rw [← Array.find?_toList] at e
  unfold PySem.W.lookIn
  rw [hd]
  dsimp only
  split
  · rename_i y q
    rw [q] at e
    exact congrArg some e
  · rename_i q
    rw [q] at e
    have a : es.toList.any (·.refKey) = false := by
      rw [List.any_eq_false]
      intro y hy
      obtain ⟨z, t, hkey⟩ := hk y (Array.mem_toList_iff.mp hy)
      simp [DictEntry.refKey, hkey]
    have a' : ¬ es.toList.any (·.refKey) = true := by rw [a]; exact Bool.false_ne_true
    rw [if_neg a']
    exact congrArg some e
theorem ObjM.look {h : Heap} {x dx C : Addr} {mA : Str → Option Value} (I : ObjM h x dx C mA) : ∃ od, PySem.W.InstAt h x (PySem.W.instObj C dx) C (some od) ∧ ∀ name, PySem.W.lookIn name od = some (mA name) :=
  let ⟨od, ho, hl⟩ := lookIn_ns I.ns
  ⟨od, ⟨I.obj, rfl, rfl, ho⟩, hl⟩
section
variable {prog : Program} {w : World} {A : Around} {E : Value → Shared → Prop} {s : Shared} {K : PySem.W.Frag} {x dx C f : Addr} {mA : Str → Option Value} {name : Str} {v : Value}
theorem get_map {expr : Bool} {Q : Value → Shared → Prop} (X : K.In s.heap) (I : ObjM s.heap x dx C mA) (hg : PySem.W.plainGet K C name = true) (hh : PySem.W.hasDictIn K C = true)
    (ha : PySem.W.findIn K (.ref C) name = some none) (hv : mA name = some v) (hv' : PySem.W.handedIn v = true) (h : Q v { s with toks := s.toks + 1 }) :
    wpAny (model prog w) A (getAttr (.ref x) name expr) Q E s := by
  obtain ⟨od, J, hl⟩ := I.look
  exact PySem.W.get_value X J (PySem.W.plainGet_of hg).1 (PySem.W.findObj_own hh ha rfl (by rw [hl, hv])) hv' h
theorem get_meth {pl : Sem Bool} {Q : Value × List Value → Shared → Prop} (X : K.In s.heap) (I : ObjM s.heap x dx C mA) (hg : PySem.W.plainGet K C name = true)
    (hf : PySem.W.findIn K (.ref C) name = some (some (.ref f))) (ht : PySem.W.isFn K (.ref f) = true) (hv : mA name = none) (h : Q (.ref f, [.ref x]) s) :
    wpAny (model prog w) A (getMethod (.ref x) name pl) Q E s := by
  obtain ⟨od, J, hl⟩ := I.look
  exact PySem.W.method_fn X J (PySem.W.plainGet_of hg).1 (PySem.W.plainGet_of hg).2 hf (beq_iff_eq.mp ht) (by show (PySem.W.lookIn name od).map (·.isSome) = some false; rw [hl, hv]; rfl) h
theorem set_map {ns : List Str} {Q : Unit → Shared → Prop} (X : K.In s.heap) (I : ObjM s.heap x dx C mA)
    (hs : PySem.W.findIn K (.ref C) "__setattr__" = some (some (.builtin "object.__setattr__"))) (hp : PySem.W.plainOver K C = true) (ht : PySem.W.takerIn K C name = some none) (hh : PySem.W.hasDictIn K C = true)
    (hw : PySem.Within mA ns) (hsz : ns.length ≤ sizeLine)
    (h : ∀ h', ObjM h' x dx C (fun y => if y = name then some v else mA y) → Heap.SameBut dx s.heap h' → Q () { s with heap := h', toks := s.toks + 2 }) :
    wpAny (model prog w) A (setAttr (.ref x) name v) Q E s := by
  obtain ⟨od, J, hl⟩ := I.look
  refine PySem.W.set_plain X J hs (PySem.W.osa_open (s := { s with toks := s.toks + 1 }) (r := none) X J hp ht fun b => ?_)
  obtain ⟨cd, hc, hd'⟩ := PySem.W.any_some hh
  have hx : s.heap.get? x = some ⟨.ref C, some dx, .plain, #[]⟩ := I.obj
  refine wpAny_bind (wpAny_pure (wpAny_bind (wpAny_bind (wpAny_loadPart hx (wpAny_bind (PySem.W.Looks.here (s := { s with toks := s.toks + 1 }) (PySem.W.looks_clsIn X hc) ?_))))))
  rw [hd']
  refine wpAny_pure (a := some dx) (wpAny_bind (wpAny_pure (wpAny_bind ?_)))
  refine wpAny_nsSet1 (s := { s with toks := s.toks + 1 }) I.ns fun h' hn2 hs2 => ?_
  obtain ⟨oD, esD, epD, hoD, hdD, hcD⟩ := hn2.count (PySem.Within.cons name v hw)
  refine wpAny_bind (wpAny_lookBehind hoD (by rw [hdD]; exact pastItsLine_dict (Nat.le_trans hcD (by rw [List.length_cons]; omega))) ?_)
  exact wpAny_pure (h _ ⟨(hs2.2 _ (Ne.symm I.ne)).trans I.obj, hn2, I.ne⟩ hs2)
theorem make_map {R : Result → Shared → Prop} {vs : List Value} {kw : List (Str × Value)} (X : K.In s.heap) (hm : PySem.W.makesIn K C = true)
    (hi : PySem.W.findIn K (.ref C) "__init__" = some (some (.ref f))) (hf : PySem.W.typeIn K (.ref f) = some (.type "function"))
    (h : codeAny (model prog w) (A.under (.builtin "type.__call__" ⟨.ref C :: vs, kw⟩)) (.call (.ref f) ⟨.ref (s.heap.objs.size + 1) :: vs, kw⟩) (PySem.W.InitBack (s.heap.objs.size + 1) R)
      { s with heap := (s.heap.push PySem.W.emptyDict).push (PySem.W.instObj C s.heap.objs.size) }) :
    codeAny (model prog w) A (.call (.ref C) ⟨vs, kw⟩) R s := by
  obtain ⟨hh, g, d, t, os⟩ := s
  exact PySem.W.make_core (PySem.W.makes_of X hm) (PySem.W.looks_findIn X hi) (fun self => PySem.W.bind_fn X self hf) (.inl rfl) h
end
def putF (f : Str) (v : V) : List (Str × V) → List (Str × V)
  | [] => [(f, v)]
  | (g, x) :: r => if g = f then (g, v) :: r else (g, x) :: putF f v r
theorem lookup_putF (f g : Str) (v : V) : ∀ fs : List (Str × V), (putF f v fs).lookup g = if g = f then some v else fs.lookup g
  | [] => by
    show List.lookup g [(f, v)] = _
    by_cases h : g = f
    · have hb : (g == f) = true := beq_iff_eq.mpr h
      simp only [List.lookup, hb, if_pos h]
    · have hb : (g == f) = false := beq_eq_false_iff_ne.mpr h
      simp only [List.lookup, hb, if_neg h]
  | (k, x) :: r => by
    have ih := lookup_putF f g v r
    rw [show putF f v ((k, x) :: r) = (if k = f then (k, v) :: r else (k, x) :: putF f v r) from rfl]
    by_cases hk : k = f
    · rw [if_pos hk]
      by_cases h : g = k
      · have hb : (g == k) = true := beq_iff_eq.mpr h
        simp only [List.lookup, hb, if_pos (h.trans hk)]
      · have hb : (g == k) = false := beq_eq_false_iff_ne.mpr h
        simp only [List.lookup, hb, if_neg (fun e : g = f => h (e.trans hk.symm))]
    · rw [if_neg hk]
      by_cases h : g = k
      · have hb : (g == k) = true := beq_iff_eq.mpr h
        simp only [List.lookup, hb, if_neg (fun e : g = f => hk (h.symm.trans e))]
      · have hb : (g == k) = false := beq_eq_false_iff_ne.mpr h
        simp only [List.lookup, hb]
        exact ih
theorem keys_putF (f : Str) (v : V) : ∀ fs : List (Str × V), f ∈ (putF f v fs).map (·.1) ∧ ∀ g, g ∈ fs.map (·.1) → g ∈ (putF f v fs).map (·.1)
  | [] => ⟨by simp [putF], fun g h => by simp at h⟩
  | (k, x) :: r => by
    obtain ⟨i1, i2⟩ := keys_putF f v r
    rw [show putF f v ((k, x) :: r) = (if k = f then (k, v) :: r else (k, x) :: putF f v r) from rfl]
    by_cases hk : k = f
    · rw [if_pos hk]
      subst hk
      exact ⟨by simp, fun g h => by simpa using h⟩
    · rw [if_neg hk]
      refine ⟨?_, fun g h => ?_⟩
      · rw [List.map_cons]
        exact List.mem_cons_of_mem _ i1
      · rw [List.map_cons] at h ⊢
        rcases List.mem_cons.mp h with e | e
        · exact List.mem_cons.mpr (.inl e)
        · exact List.mem_cons_of_mem _ (i2 g e)
theorem length_putF (f : Str) (v : V) : ∀ fs : List (Str × V), (putF f v fs).length ≤ fs.length + 1
  | [] => by simp [putF]
  | (k, x) :: r => by
    have ih := length_putF f v r
    rw [show putF f v ((k, x) :: r) = (if k = f then (k, v) :: r else (k, x) :: putF f v r) from rfl]
    by_cases hk : k = f
    · rw [if_pos hk, List.length_cons, List.length_cons]; omega
    · rw [if_neg hk, List.length_cons, List.length_cons]; omega
theorem RelO.some_of {v : V} {o : Option Value} (r : RelO (some v) o) : ∃ u, o = some u ∧ RelV v u := by
  cases o with
  | none => exact (show False from r).elim
  | some u => exact ⟨u, rfl, r⟩
theorem RelO.none_of {o : Option Value} (r : RelO none o) : o = none := by
  cases o with
  | none => rfl
  | some u => exact (show False from r).elim
theorem handed_of {v : V} {u : Value} (r : RelV v u) : PySem.W.handedIn u = true := by
  cases v with
  | non => cases (show u = Value.none from r); rfl
  | bl b => cases (show u = Value.bool b from r); rfl
  | int i => obtain ⟨t, e⟩ := (show ∃ t, u = Value.int i t from r); cases e; rfl
  | str x => obtain ⟨t, e⟩ := (show ∃ t, u = Value.str x t from r); cases e; rfl
  | byt b => obtain ⟨t, e⟩ := (show ∃ t, u = Value.bytes b t from r); cases e; rfl
  | flt b => obtain ⟨t, e⟩ := (show ∃ t, u = Value.float b t from r); cases e; rfl
  | ref a => cases (show u = Value.ref a from r); rfl
  | ty n => cases (show u = Value.type n from r); rfl
section
variable {P : Program} {w : World} {H H' : Hp} {h h' : Heap} {a C dx : Addr} {fs fs' : List (Str × V)}
theorem ins_get (hok : HOk P w H h) (e : H a = some (.ins C dx fs)) : ∃ mA, ObjM h a dx C mA ∧ (∀ f, RelO (fs.lookup f) (mA f)) ∧ PySem.Within mA (fs.map (·.1)) ∧ fs.length ≤ 1000 ∧ H dx = some (.own a) := by
  obtain ⟨d, z, ne, ob, mA, n, r, q⟩ := (show ObjOk P w H h a (.ins C dx fs) from hok a _ e)
  exact ⟨mA, ⟨ob, n, ne⟩, r, q, z, d⟩
end
structure Cls (K : PySem.W.Frag) (C : Addr) : Prop where
  pg : PySem.W.plainGet K C Str.empty = true
  hd : PySem.W.hasDictIn K C = true
  po : PySem.W.plainOver K C = true
  sa : PySem.W.findIn K (.ref C) "__setattr__" = some (some (.builtin "object.__setattr__"))
theorem Cls.get {K : PySem.W.Frag} {C : Addr} (c : Cls K C) (f : Str) : PySem.W.plainGet K C f = true := c.pg
def NoAttr (K : PySem.W.Frag) (C : Addr) (f : Str) : Prop := PySem.W.findIn K (.ref C) f = some none
theorem NoAttr.taker {K : PySem.W.Frag} {C : Addr} {f : Str} (n : NoAttr K C f) : PySem.W.takerIn K C f = some none := by
  unfold PySem.W.takerIn
  rw [show PySem.W.findIn K (.ref C) f = some none from n]
  rfl
structure Con (K : PySem.W.Frag) (C : Addr) (f : Str) (v : V) (u : Value) : Prop where
  at_ : PySem.W.findIn K (.ref C) f = some (some u)
  rel : RelV v u
  get : PySem.W.specialIn K u "__get__" = some none
  cp : PySem.W.copiedNames.contains f = false
structure Meth (K : PySem.W.Frag) (C : Addr) (m : Str) (f : Addr) : Prop where
  at_ : PySem.W.findIn K (.ref C) m = some (some (.ref f))
  fn : PySem.W.isFn K (.ref f) = true
  kp : PySem.W.keepIn K (.ref f) = true
section
variable {X : Cx} {pins : List (Addr × Obj)} {σ : St} {H : Hp} {s : Shared} {a C dx : Addr} {fs : List (Str × V)} {f : Str} {v : V} {A : Around} {E : Value → Shared → Prop}
theorem getattr_ok {b : Bool} {Q : Value → Shared → Prop} (I : Inv X pins σ H s) (e : H a = some (.ins C dx fs)) (c : Cls X.K C) (n : NoAttr X.K C f) (l : fs.lookup f = some v)
    (h : ∀ u s', Inv X pins σ H s' → RelV v u → Q u s') : wpAny (model X.prog X.w) A (getAttr (.ref a) f b) Q E s := by
  obtain ⟨mA, O, r, _, _, _⟩ := ins_get I.hok e
  obtain ⟨u, hu, ru⟩ := RelO.some_of (v := v) (o := mA f) (by rw [← l]; exact r f)
  exact get_map I.kIn O (c.get f) c.hd n hu (handed_of ru) (h u _ (I.tok _) ru)
theorem getmeth_ok {m : Str} {g : Addr} {pl : Sem Bool} {Q : Value × List Value → Shared → Prop} (I : Inv X pins σ H s) (e : H a = some (.ins C dx fs)) (c : Cls X.K C) (k : Meth X.K C m g) (l : fs.lookup m = none)
    (h : Q (.ref g, [.ref a]) s) : wpAny (model X.prog X.w) A (getMethod (.ref a) m pl) Q E s := by
  obtain ⟨mA, O, r, _, _, _⟩ := ins_get I.hok e
  have hn : mA m = none := RelO.none_of (by rw [← l]; exact r m)
  exact get_meth I.kIn O (c.get m) k.at_ k.fn hn h
theorem setattr_ok {y : V} {u : Value} {Q : Unit → Shared → Prop} (I : Inv X pins σ H s) (e : H a = some (.ins C dx fs)) (c : Cls X.K C) (n : NoAttr X.K C f) (hl : fs.length < 1000) (ry : RelV y u)
    (h : ∀ s', Inv X pins σ (upd H a (.ins C dx (putF f y fs))) s' → Q () s') : wpAny (model X.prog X.w) A (setAttr (.ref a) f u) Q E s := by
  obtain ⟨mA, O, r, wi, _, ho⟩ := ins_get I.hok e
  have hz : (fs.map (·.1)).length ≤ sizeLine := by rw [List.length_map, sizeLine_eq]; omega
  refine set_map I.kIn O c.sa c.po n.taker c.hd wi hz fun h' O' sb => h _ ?_
  have hd : ∃ o, h'.get? dx = some o := let ⟨o, _, _, e', _⟩ := O'.ns; ⟨o, e'⟩
  refine I.write (x := a) (e := dx) (by rw [e]; exact True.intro) (.inr ho) (fun b q hb z => (sb.2 b hb).trans z) hd ?_
  refine ⟨by rw [upd_ne O.ne]; exact ho, ?_, O.ne, O'.obj, _, O'.ns, fun g => ?_, fun g hg => ?_⟩
  · have := length_putF f y fs; omega
  · show RelO ((putF f y fs).lookup g) (if g = f then some u else mA g)
    rw [lookup_putF]
    by_cases q : g = f
    · rw [if_pos q, if_pos q]; exact ry
    · rw [if_neg q, if_neg q]; exact r g
  · by_cases q : g = f
    · rw [q]; exact (keys_putF f y fs).1
    · refine (keys_putF f y fs).2 g (wi g fun z => hg ?_)
      show (if g = f then some u else mA g) = none
      rw [if_neg q]; exact z
theorem Inv.made (I : Inv X pins σ H s) : Inv X pins σ (upd (upd H s.heap.objs.size (.own (s.heap.objs.size + 1))) (s.heap.objs.size + 1) (.ins C s.heap.objs.size []))
    { s with heap := (s.heap.push PySem.W.emptyDict).push (PySem.W.instObj C s.heap.objs.size) } := by
  have e1 : (s.heap.push PySem.W.emptyDict).get? s.heap.objs.size = some PySem.W.emptyDict := Heap.get?_push_size s.heap rfl
  have e2 : ((s.heap.push PySem.W.emptyDict).push (PySem.W.instObj C s.heap.objs.size)).get? (s.heap.objs.size + 1) = some (PySem.W.instObj C s.heap.objs.size) := by
    have := Heap.get?_push_size (s.heap.push PySem.W.emptyDict) (o := PySem.W.instObj C s.heap.objs.size) rfl
    rwa [Heap.size_push] at this
  have e3 : (s.heap.push PySem.W.emptyDict).Ns s.heap.objs.size (fun _ => none) := ⟨PySem.W.emptyDict, #[], _, e1, rfl, (fun e he => absurd he (by simp)), fun _ => rfl⟩
  have I1 := I.laid (a := s.heap.objs.size) (o := .own (s.heap.objs.size + 1)) (h' := s.heap.push PySem.W.emptyDict) (t' := s.toks) (fun b u q => Heap.get?_push_of_some _ q) (Nat.le_refl _) ⟨_, e1⟩
  refine I1.laid (a := s.heap.objs.size + 1) (o := .ins C s.heap.objs.size []) (t' := s.toks) (fun b u q => Heap.get?_push_of_some _ q) (Nat.le_of_eq (Heap.size_push _ _)) ?_
  have ne : s.heap.objs.size ≠ s.heap.objs.size + 1 := Nat.ne_of_lt (Nat.lt_succ_self _)
  refine ⟨by rw [upd_ne ne, upd_same], Nat.zero_le _, ne, e2, fun _ => none, (Heap.Ns1.of_empty e3).at fun o q => Heap.get?_push_of_some _ q, fun _ => True.intro, fun y hy => absurd rfl hy⟩
theorem attr_of {prog : Program} {w : World} {env : Env} {e : Expr} {f : Str} {pos : Pos} {s : Shared} {Q : Value → Shared → Prop} (hb : attributeBase e f env (eval e env) = eval e env)
    (h : wpAny (model prog w) A (eval e env) (fun o s₁ => wpAny (model prog w) A (getAttr o f true) Q E s₁) E s) : wpAny (model prog w) A (eval (.Attribute e f pos) env) Q E s :=
  Attribute_any_ h (by rw [arm_eval_Attribute, hb])
end
def tFld (K : PySem.W.Frag) (ta : TE) (f : Str) : TE := fun σ H Q => ta σ H fun x H1 => ∃ a C dx fs v, x = .ref a ∧ H1 a = some (.ins C dx fs) ∧ Cls K C ∧ NoAttr K C f ∧ fs.lookup f = some v ∧ Q v H1
def sFld (K : PySem.W.Frag) (ta tv : TE) (f : Str) : TS := fun D σ H => tv σ H fun y H1 => ta σ H1 fun x H2 => ∃ a C dx fs, x = .ref a ∧ H2 a = some (.ins C dx fs) ∧ Cls K C ∧ NoAttr K C f ∧ fs.length < 1000 ∧
  D.nx σ (upd H2 a (.ins C dx (putF f y fs)))
def InOp (X : Cx) (op : Operator) (rd : V → V → Hp → VK → Prop) : Prop :=
  ∀ (pins : List (Addr × Obj)) (s : Shared) (σ : St) (H : Hp) (x y : V) (u v : Value) (Q : VK), Inv X pins σ H s → RelV x u → RelV y v → rd x y H Q → wpAny (model X.prog X.w) X.A (inplaceOp op u v) (EP X pins σ Q) X.xe s
def sFldAug (K : PySem.W.Frag) (ta tv : TE) (rd : V → V → Hp → VK → Prop) (f : Str) : TS := fun D σ H => ta σ H fun x H1 => ∃ a C dx fs v, x = .ref a ∧ H1 a = some (.ins C dx fs) ∧ Cls K C ∧ NoAttr K C f ∧ fs.lookup f = some v ∧
  tv σ H1 fun y H2 => rd v y H2 fun z H3 => ∃ dx' fs', H3 a = some (.ins C dx' fs') ∧ fs'.length < 1000 ∧ D.nx σ (upd H3 a (.ins C dx' (putF f z fs')))
section
variable {X : Cx} {o e value : Expr} {f : Str} {pos pos' tpos : Pos} {ta tv : TE}
theorem pe_fld (he : PE X e ta) (hb : attributeBase e f X.env (eval e X.env) = eval e X.env) : PE X (.Attribute e f pos) (tFld X.K ta f) := by
  intro pins s σ H Q I h
  refine attr_of hb (thn (he pins s σ H _ I h) fun u s1 ⟨x, H1, I1, rx, a, C, dx, fs, v, ex, ea, c, n, l, q⟩ => ?_)
  subst ex
  obtain rfl : u = Value.ref a := rx
  exact getattr_ok I1 ea c n l fun u' s2 I2 ru => ⟨v, H1, I2, ru, q⟩
theorem ps_fld (ha : PE X o ta) (hv : PE X value tv) (hs : swapsWith value (some (.Attribute o f pos')) pos.line X.env = pure false) : PS X (.Assign [.Attribute o f pos'] value pos) (sFld X.K ta tv f) := by
  intro pins s σ H D I h
  refine plainObj_wpAny_Assign_Attribute (thn (hv pins s σ H _ I h) fun u s1 ⟨y, H1, I1, ry, q⟩ => thn (ha pins s1 σ H1 _ I1 q) fun ov s2 ⟨x, H2, I2, rx, a, C, dx, fs, ex, ea, c, n, l, q2⟩ => ?_) hs
  subst ex
  obtain rfl : ov = Value.ref a := rx
  exact setattr_ok I2 ea c n l ry fun s3 I3 => ⟨σ, _, I3, q2⟩
theorem ps_fldaug {op : Operator} {rd : V → V → Hp → VK → Prop} (ha : PE X o ta) (hv : PE X value tv) (hop : InOp X op rd) : PS X (.AugAssign (.Attribute o f tpos) op value pos) (sFldAug X.K ta tv rd f) := by
  intro pins s σ H D I h
  refine wpAny_AugAssign_AttributeAny (thn (ha pins s σ H _ I h) fun ov s1 ⟨x, H1, I1, rx, a, C, dx, fs, v, ex, ea, c, n, l, q⟩ => ?_)
  subst ex
  obtain rfl : ov = Value.ref a := rx
  refine getattr_ok I1 ea c n l fun u s2 I2 ru => thn (hv pins s2 σ H1 _ I2 q) fun w3 s3 ⟨y, H2, I3, ry, q3⟩ => thn (hop pins s3 σ H2 v y u w3 _ I3 ru ry q3) fun w4 s4 ⟨z, H3, I4, rz, dx', fs', ea', l', q4⟩ => ?_
  exact setattr_ok I4 ea' c n l' rz fun s5 I5 => ⟨σ, _, I5, q4⟩
def rAdd : V → V → Hp → VK → Prop := fun x y H Q => ∃ i j, x = .int i ∧ y = .int j ∧ Q (.int (i + j)) H
theorem in_add : InOp X .Add rAdd := by
  rintro pins s σ H x y u v Q I rx ry ⟨i, j, rfl, rfl, q⟩
  obtain ⟨t, rfl⟩ := (show ∃ t, u = Value.int i t from rx)
  obtain ⟨t', rfl⟩ := (show ∃ t', v = Value.int j t' from ry)
  exact PyProof.Rows.iadd_int ⟨.int (i + j), H, I.tok _, ⟨_, rfl⟩, q⟩
theorem methcall_of {pl : Sem Bool} {m : Str} {apos : Pos} {args : List Expr} {pins : List (Addr × Obj)} {s : Shared} {σ : St} {H : Hp} {Q : Value → Shared → Prop} {te : TE} (he : PE X e te) (I : Inv X pins σ H s)
    (h : te σ H fun x H1 => ∃ a C dx fs g, x = .ref a ∧ H1 a = some (.ins C dx fs) ∧ Cls X.K C ∧ Meth X.K C m g ∧ fs.lookup m = none ∧
      ∀ s1, Inv X pins σ H1 s1 → wpAny (model X.prog X.w) X.A (callWith pos (.ref g) [.ref a] (backTo pos (starEach args X.env)) (backToKw pos (keywordEach [] X.env))) Q X.xe s1)
    (ht : eval (.Call (.Attribute e m apos) args [] pos) X.env = (do
      let ov ← eval e X.env
      standAt apos.atName
      let (f, first) ← holding [ov] (getMethod ov m pl)
      callWith pos f first (backTo pos (starEach args X.env)) (backToKw pos (keywordEach [] X.env)))) :
    wpAny (model X.prog X.w) X.A (eval (.Call (.Attribute e m apos) args [] pos) X.env) Q X.xe s := by
  refine PySem.W.methodCall_KW (pl := pl) (thn (he pins s σ H _ I h) fun u s1 ⟨x, H1, I1, rx, a, C, dx, fs, g, ex, ea, c, k, l, q⟩ => ?_) ht
  subst ex
  obtain rfl : u = Value.ref a := rx
  exact getmeth_ok I1 ea c k l (q s1 I1)
end
section
variable {X : Cx} {pins : List (Addr × Obj)} {σ : St} {H : Hp} {s : Shared} {A : Around} {E : Value → Shared → Prop} {Q : Value → Shared → Prop} {c : Value} {b : Bool}
inductive TyOf (K : PySem.W.Frag) (H : Hp) : V → Value → Prop where
  | non : TyOf K H .non (.type "NoneType")
  | bl (x : Bool) : TyOf K H (.bl x) (.type "bool")
  | int (i : Int) : TyOf K H (.int i) (.type "int")
  | str (x : Str) : TyOf K H (.str x) (.type "str")
  | flt (x : UInt64) : TyOf K H (.flt x) (.type "float")
  | lst {a : Addr} {xs : List V} (e : H a = some (.lst xs)) : TyOf K H (.ref a) (.type "list")
  | frz {a : Addr} {o : Obj} {xs : List V} (e : H a = some (.frz o (.lst xs))) : TyOf K H (.ref a) (.type "list")
  | tup {a : Addr} {xs : List V} (e : H a = some (.tup xs)) : TyOf K H (.ref a) (.type "tuple")
  | dK {a : Addr} {kvs : List (Key × V)} (e : H a = some (.dK kvs)) : TyOf K H (.ref a) (.type "dict")
  | dT {a : Addr} {kvs : List (List Key × V)} (e : H a = some (.dT kvs)) : TyOf K H (.ref a) (.type "dict")
  | ins {a C dx : Addr} {fs : List (Str × V)} (e : H a = some (.ins C dx fs)) (cl : Cls K C) (ha : PySem.W.findIn K (.ref C) "__class__" = some (some (.builtin "object.__class__")))
      (hn : PySem.W.specialIn K (.builtin "object.__class__") "__get__" = some (some (.builtin "getset_descriptor.__get__"))) (htk : PySem.W.takesIn K (.builtin "object.__class__") = some true)
      (hm : PySem.W.mroIn K C (.type "object") = some true) : TyOf K H (.ref a) (.ref C)
theorem isinst_ok {x : V} {u t : Value} (I : Inv X pins σ H s) (rx : RelV x u) (ty : TyOf X.K H x t) (e : PySem.W.kitOne X.K t c = some b) (h : ∀ tk, Q (.bool b) { s with toks := tk }) :
    wpAny (model X.prog X.w) A (call (.builtin "isinstance") [u, c]) Q E s := by
  cases ty with
  | non => cases (show u = Value.none from rx); exact PySem.W.kia_one PySem.W.kitx_none I.kIn True.intro e (fun z => nomatch z) h
  | bl y => cases (show u = Value.bool y from rx); exact PySem.W.kia_one PySem.W.kitx_bool I.kIn True.intro e (fun z => nomatch z) h
  | int i => obtain ⟨t, q⟩ := (show ∃ t, u = Value.int i t from rx); cases q; exact PySem.W.kia_one PySem.W.kitx_int I.kIn True.intro e (fun z => nomatch z) h
  | str y => obtain ⟨t, q⟩ := (show ∃ t, u = Value.str y t from rx); cases q; exact PySem.W.kia_one PySem.W.kitx_str I.kIn True.intro e (fun z => nomatch z) h
  | flt y => obtain ⟨t, q⟩ := (show ∃ t, u = Value.float y t from rx); cases q; exact PySem.W.kia_one PySem.W.kitx_float I.kIn True.intro e (fun z => nomatch z) h
  | @lst a xs ea =>
    cases (show u = Value.ref a from rx)
    obtain ⟨_, _, n, _, h1⟩ := (show ObjOk X.prog X.w H s.heap a (.lst xs) from I.hok a _ ea)
    exact PySem.W.kia_one PySem.W.kitx_list I.kIn ⟨_, h1, rfl⟩ e (fun z => nomatch z) h
  | @frz a ob xs ea =>
    cases (show u = Value.ref a from rx)
    obtain ⟨_, _, _, n, _, h1⟩ := (show ObjOk X.prog X.w H s.heap a (.frz ob (.lst xs)) from I.hok a _ ea)
    exact PySem.W.kia_one PySem.W.kitx_list I.kIn ⟨_, h1, rfl⟩ e (fun z => nomatch z) h
  | @tup a xs ea =>
    cases (show u = Value.ref a from rx)
    obtain ⟨_, _, _, p⟩ := (show ObjOk X.prog X.w H s.heap a (.tup xs) from I.hok a _ ea)
    obtain ⟨o, h1, h2, _⟩ := p
    exact PySem.W.kia_one PySem.W.kitx_tuple I.kIn ⟨o, h1, h2⟩ e (fun z => nomatch z) h
  | @dK a kvs ea =>
    cases (show u = Value.ref a from rx)
    obtain ⟨_, _, vs, _, p⟩ := (show ObjOk X.prog X.w H s.heap a (.dK kvs) from I.hok a _ ea)
    obtain ⟨o, es, ep, h1, h2, _⟩ := p
    exact PySem.W.kia_one PySem.W.kitx_dict I.kIn ⟨o, h1, h2.1⟩ e (fun z => nomatch z) h
  | @dT a kvs ea =>
    cases (show u = Value.ref a from rx)
    obtain ⟨_, _, xs, _, o, es, ep, h1, h2, _⟩ := (show ObjOk X.prog X.w H s.heap a (.dT kvs) from I.hok a _ ea)
    exact PySem.W.kia_one PySem.W.kitx_dict I.kIn ⟨o, h1, h2.1⟩ e (fun z => nomatch z) h
  | @ins a C dx fs ea cl ha hn htk hm =>
    cases (show u = Value.ref a from rx)
    obtain ⟨mA, O, _⟩ := ins_get I.hok ea
    obtain ⟨od, J, _⟩ := O.look
    exact PySem.W.kia_one (PySem.W.kitx_own (cl.get _) cl.hd ha hn htk hm) I.kIn J e (fun z => nomatch z) h
end
end L2
namespace L2
open PySem PySem.Spec PyProof.Rows
structure Room (k : Nat) (A : Around) : Prop where
  hd : A.handled = none
  dp : A.depth + 3 * k + 5 < recursionLimit
  un : A.units + 16 * k + 200 < cLine
theorem Room.mono {j k : Nat} {A : Around} (r : Room k A) (h : j ≤ k) : Room j A := ⟨r.hd, by have := r.dp; omega, by have := r.un; omega⟩
theorem Room.deeper {k : Nat} {A : Around} (r : Room (k + 1) A) (env : Env) : Room k (A.deeper env) :=
  ⟨r.hd, by have := r.dp; show A.depth + 1 + 3 * k + 5 < _; omega, by have := r.un; show A.units + 3 + 16 * k + 200 < _; omega⟩
theorem Room.in1 {k : Nat} {A : Around} (r : Room (k + 1) A) : Room k A.in1 :=
  ⟨r.hd, by have := r.dp; show A.depth + 3 * k + 5 < _; omega, by have := r.un; show A.units + 1 + 16 * k + 200 < _; omega⟩
theorem make_depth {A : Around} {C : Addr} {us : List Value} {kw : List (Str × Value)} : (A.under (.builtin "type.__call__" ⟨.ref C :: us, kw⟩)).depth = A.depth + 1 := by
  first | rfl | simp [Around.under, Code.weight, Code.isCreation, Code.isGuard, Code.isCaller, Code.frames, Code.isFrame, guardIds]
theorem make_units {A : Around} {C : Addr} {us : List Value} {kw : List (Str × Value)} : (A.under (.builtin "type.__call__" ⟨.ref C :: us, kw⟩)).units = A.units + 1 := by
  first | rfl | simp [Around.under, Code.cUnits, Code.frames, Code.isFrame]
theorem Room.make {k : Nat} {A : Around} (r : Room (k + 1) A) (C : Addr) (us : List Value) (kw : List (Str × Value)) : Room k (A.under (.builtin "type.__call__" ⟨.ref C :: us, kw⟩)) :=
  ⟨r.hd, by have := r.dp; rw [make_depth]; omega, by have := r.un; rw [make_units]; omega⟩
theorem Room.depth {k : Nat} {A : Around} (r : Room k A) : A.depth < recursionLimit := by have := r.dp; omega
theorem Room.units {k : Nat} {A : Around} (r : Room k A) : A.units + 64 < cLine := by have := r.un; omega
def tNil : TA := fun _ H Q => Q [] H
def tCons (ta : TE) (tr : TA) : TA := fun σ H Q => ta σ H fun x H1 => tr σ H1 fun xs H2 => Q (x :: xs) H2
section
variable {X : Cx} {e : Expr} {es : List Expr} {te : TE} {t : TA} {pos : Pos}
theorem pa_nil : PA X [] tNil := fun _ _ _ _ H Q I h => Calls.spliced_nil ⟨[], H, I, .nil, h⟩
theorem pa_cons (ha : PE X e te) (hr : PA X es t) (hs : starEach (e :: es) X.env = (false, eval e X.env) :: starEach es X.env := by rfl) : PA X (e :: es) (tCons te t) := by
  intro pos pins s σ H Q I h
  rw [hs]
  show wpAny _ _ (spliced ((false, eval e X.env) :: backTo pos (starEach es X.env))) _ _ s
  refine Calls.spliced_cons (thn (ha pins s σ H _ I h) fun u s1 ⟨x, H1, I1, r1, q1⟩ => ?_)
  exact thn (hr pos pins s1 σ H1 _ I1 q1) fun us s2 ⟨xs, H2, I2, r2, q2⟩ => ⟨x :: xs, H2, I2, .cons r1 r2, q2⟩
def tLst (t : TA) : TE := fun σ H Q => t σ H fun xs H1 => xs.length ≤ sizeLine ∧ ∀ p, H1 p = none → Q (.ref p) (upd H1 p (.lst xs))
theorem pe_lst (h : PA X es t) : PE X (.List es pos) (tLst t) := by
  intro pins s σ H Q I hq
  refine wpAny_List_spliced (thn (h pos pins s σ H _ I hq) fun us s1 ⟨xs, H1, I1, r, z, q⟩ => ⟨by rw [← r.length]; exact z, ?_⟩)
  have hf : H1 s1.heap.objs.size = none := I1.hok.fresh (Nat.le_refl _)
  refine ⟨.ref s1.heap.objs.size, upd H1 s1.heap.objs.size (.lst xs), I1.laid (t' := s1.toks) (fun b u e => Heap.get?_push_of_some _ e) (Nat.le_refl _) ?_, rfl, q _ hf⟩
  exact ⟨z, us, 0, r, Heap.get?_push_size _ rfl⟩
end
abbrev Sp := List V → Hp → VK → XK → Prop
abbrev CXT := List Env → Hp → Shared → XK → Value → Shared → Prop
structure Env0 (P : Program) (w : World) (K : PySem.W.Frag) (mg : Str → Option Value) (base : Heap) (A : Around) (outer : List Env) (s : Shared) (H : Hp) : Prop where
  frames : A.frames = some outer
  mod : Mod K mg base
  bs : ∀ b o, base.get? b = some o → s.heap.get? b = some o ∧ H b = none
  bsz : base.objs.size ≤ s.heap.objs.size
  funs : s.heap.FunFrames base outer
  frf : ∀ b ∈ frs outer, H b = none
  hok : HOk P w H s.heap
  bare : AllBare s.gens
def CE (outer : List Env) (P : Program) (w : World) (H : Hp) (s : Shared) (Q : VK) (u : Value) (s' : Shared) : Prop :=
  ∃ v H', s'.os = s.os ∧ AllBare s'.gens ∧ Un (frs outer) [] H H' s.heap s'.heap ∧ HOk P w H' s'.heap ∧ RelV v u ∧ Q v H'
def CR (CX : CXT) (outer : List Env) (P : Program) (w : World) (H : Hp) (s : Shared) (Q : VK) (E : XK) (r : Result) (s' : Shared) : Prop :=
  match r with
  | .ok (.ret u) => CE outer P w H s Q u s'
  | .ok _ => False
  | .error e => CX outer H s E e s'
structure FnOk (P : Program) (w : World) (K : PySem.W.Frag) (mg : Str → Option Value) (base : Heap) (CX : CXT) (k : Nat) (f : Addr) (fd : FuncData) (ps : List Str) (sp : Sp) : Prop where
  len : ∀ vs H Q E, sp vs H Q E → vs.length = ps.length
  run : ∀ (A : Around) (outer : List Env) (s : Shared) (H : Hp) (args : Args) (us : List Value) (vs : List V) (Q : VK) (E : XK), Room k A → Env0 P w K mg base A outer s H → BindsTo s fd args (ps.zip us) → Vals vs us → sp vs H Q E →
    codeAny (model P w) A (.call (.ref f) args) (CR CX outer P w H s Q E) s
theorem FnOk.mono {P : Program} {w : World} {K : PySem.W.Frag} {mg : Str → Option Value} {base : Heap} {CX : CXT} {j k : Nat} {f : Addr} {fd : FuncData} {ps : List Str} {sp : Sp} (F : FnOk P w K mg base CX j f fd ps sp) (h : j ≤ k) :
    FnOk P w K mg base CX k f fd ps sp := ⟨F.len, fun A outer s H args us vs Q E hr => F.run A outer s H args us vs Q E (hr.mono h)⟩
theorem Env0.make {P : Program} {w : World} {K : PySem.W.Frag} {mg : Str → Option Value} {base : Heap} {A : Around} {outer : List Env} {s : Shared} {H : Hp} (e : Env0 P w K mg base A outer s H) (C : Addr) (us : List Value) (kw : List (Str × Value)) :
    Env0 P w K mg base (A.under (.builtin "type.__call__" ⟨.ref C :: us, kw⟩)) outer s H := ⟨by first | exact e.frames | (simpa [Around.under, Code.envs, Code.isFrame, pushEnvs] using e.frames), e.mod, e.bs, e.bsz, e.funs, e.frf, e.hok, e.bare⟩
theorem Env0.in1 {P : Program} {w : World} {K : PySem.W.Frag} {mg : Str → Option Value} {base : Heap} {A : Around} {outer : List Env} {s : Shared} {H : Hp} (e : Env0 P w K mg base A outer s H) :
    Env0 P w K mg base A.in1 outer s H := ⟨e.frames, e.mod, e.bs, e.bsz, e.funs, e.frf, e.hok, e.bare⟩
section
variable {X : Cx} {pins : List (Addr × Obj)} {σ : St} {H : Hp} {s s' : Shared}
theorem Inv.env0 (I : Inv X pins σ H s) : Env0 X.prog X.w X.K X.mg X.base X.A X.stack s H :=
  ⟨I.ok.frames, I.ok.mod, I.bs, Nat.le_trans I.ok.bsz I.sz, I.stack, I.stkFree, I.hok, I.bare⟩
theorem Inv.after {Q : VK} {u : Value} (I : Inv X pins σ H s) (h : CE X.stack X.prog X.w H s Q u s') : EP X pins σ Q u s' := by
  obtain ⟨v, H', os, bare, un, hok, r, q⟩ := h
  obtain ⟨hh, g, d, t, os'⟩ := s'
  obtain rfl : os' = s.os := os
  exact ⟨v, H', I.call (h' := hh) (g' := g) (d' := d) (t' := t) (ch := []) un hok bare (fun b z => absurd z (by simp)), r, q⟩
end
def tCall (sp : Sp) (dvs : List V) (E : XK) (t : TA) : TE := fun σ H Q => t σ H fun vs H1 => sp (vs ++ dvs) H1 Q E
def tMeth (C : Addr) (m : Str) (sp : Sp) (dvs : List V) (E : XK) (ta : TE) (t : TA) : TE := fun σ H Q => ta σ H fun x H1 => ∃ a dx fs, x = .ref a ∧ H1 a = some (.ins C dx fs) ∧ fs.lookup m = none ∧
  t σ H1 fun vs H2 => sp (x :: (vs ++ dvs)) H2 Q E
def tMake (C : Addr) (sp : Sp) (dvs : List V) (E : XK) (t : TA) : TE := fun σ H Q => t σ H fun vs H1 => ∀ x dx, H1 x = none → H1 dx = none → dx ≠ x →
  sp (.ref x :: (vs ++ dvs)) (upd (upd H1 dx (.own x)) x (.ins C dx [])) (fun v H2 => v = .non ∧ Q (.ref x) H2) E
def Binds (K : PySem.W.Frag) (fd : FuncData) (ps : List Str) (ds : List Value) : Prop :=
  ∀ (s : Shared) (us : List Value), K.In s.heap → (us ++ ds).length = ps.length → BindsTo s fd ⟨us, []⟩ (ps.zip (us ++ ds))
theorem Binds.all {K : PySem.W.Frag} {fd : FuncData} {ps : List Str} (h : ∀ us : List Value, us.length = ps.length → bindArgs fd ⟨us, []⟩ = pure (ps.zip us)) : Binds K fd ps [] := fun s us _ hl => by
  rw [List.append_nil] at hl ⊢
  exact .of_eq (h us hl)
def Passes (CX : CXT) (X : Cx) (E : XK) : Prop := ∀ (pins : List (Addr × Obj)) (σ : St) (H : Hp) (s : Shared) (e : Value) (s' : Shared), Inv X pins σ H s → CX X.stack H s E e s' → X.xe e s'
section
variable {X : Cx} {CX : CXT} {k : Nat} {f C : Addr} {fd : FuncData} {ps : List Str} {sp : Sp} {dvs : List V} {ds : List Value} {E : XK} {x m : Str} {p pos apos : Pos} {e o : Expr} {es : List Expr} {ta : TE} {t : TA}
theorem run_fn {pins : List (Addr × Obj)} {σ : St} {H : Hp} {s : Shared} {Q : VK} {us : List Value} {vs : List V} (F : FnOk X.prog X.w X.K X.mg X.base CX k f fd ps sp) (hr : Room k X.A) (hb : Binds X.K fd ps ds) (hd : Vals dvs ds) (hx : Passes CX X E)
    (I : Inv X pins σ H s) (r : Vals vs us) (h : sp (vs ++ dvs) H Q E) : wpAny (model X.prog X.w) X.A (call (.ref f) us) (EP X pins σ Q) X.xe s := by
  have r2 : Vals (vs ++ dvs) (us ++ ds) := r.append hd
  have hl : (us ++ ds).length = ps.length := by rw [← r2.length]; exact F.len _ _ _ _ h
  refine wpAny_call (codeAny_mono (F.run X.A X.stack s H ⟨us, []⟩ (us ++ ds) (vs ++ dvs) Q E hr I.env0 (hb s us I.kIn hl) r2 h) fun r s' hq => ?_)
  cases r with
  | error e => exact hx pins σ H s e s' I hq
  | ok fl =>
    cases fl with
    | ret u => exact I.after hq
    | next => exact False.elim hq
    | brk => exact False.elim hq
    | cont => exact False.elim hq
theorem pe_call (F : FnOk X.prog X.w X.K X.mg X.base CX k f fd ps sp) (hr : Room k X.A) (hg : Gl X x) (hm : X.mg x = some (.ref f)) (hk : PySem.W.keepIn X.K (.ref f) = true) (hb : Binds X.K fd ps ds) (hd : Vals dvs ds) (hx : Passes CX X E)
    (ha : PA X (e :: es) t) (hdb : (x == ("__debug__" : Str)) = false := by decide) (he : starEach (e :: es) X.env = (false, eval e X.env) :: starEach es X.env := by rfl) (hpl : (backTo pos (starEach es X.env)).any (·.1) = false := by rfl) :
    PE X (.Call (.Name x p) (e :: es) [] pos) (tCall sp dvs E t) := by
  intro pins s σ H Q I h
  refine wpAny_Call_Name_kw (ld_glob I hg hm ?_ hdb)
  refine PySem.W.callWith_K (h₀ := X.base) I.ok.mod.kin hk (thn (ha pos pins s σ H _ I h) fun us s1 ⟨vs, H1, I1, r, q⟩ => ⟨I1.kIn, ?_⟩) he hpl
  exact run_fn F hr hb hd hx I1 r q
theorem pe_meth {pl : Sem Bool} (he : PE X o ta) (c : Cls X.K C) (hm : Meth X.K C m f) (F : FnOk X.prog X.w X.K X.mg X.base CX k f fd ps sp) (hr : Room k X.A) (hb : Binds X.K fd ps ds) (hd : Vals dvs ds) (hx : Passes CX X E) (ha : PA X (e :: es) t)
    (hst : starEach (e :: es) X.env = (false, eval e X.env) :: starEach es X.env := by rfl) (hpl : (backTo pos (starEach es X.env)).any (·.1) = false := by rfl)
    (ht : eval (.Call (.Attribute o m apos) (e :: es) [] pos) X.env = (do
      let ov ← eval o X.env
      standAt apos.atName
      let (f, first) ← holding [ov] (getMethod ov m pl)
      callWith pos f first (backTo pos (starEach (e :: es) X.env)) (backToKw pos (keywordEach [] X.env))) := by rfl) :
    PE X (.Call (.Attribute o m apos) (e :: es) [] pos) (tMeth C m sp dvs E ta t) := by
  intro pins s σ H Q I h
  refine PySem.W.methodCall_KW (pl := pl) (thn (he pins s σ H _ I h) fun u s1 ⟨x, H1, I1, rx, a, dx, fs, ex, ea, l, q⟩ => ?_) ht
  subst ex
  obtain rfl : u = Value.ref a := rx
  refine getmeth_ok I1 ea c hm l ?_
  refine PySem.W.callWith_K (first := [.ref a]) (h₀ := X.base) I.ok.mod.kin hm.kp (thn (ha pos pins s1 σ H1 _ I1 q) fun us s2 ⟨vs, H2, I2, r, q2⟩ => ⟨I2.kIn, ?_⟩) hst hpl
  exact run_fn (us := .ref a :: us) (vs := .ref a :: vs) F hr hb hd hx I2 (.cons rfl r) q2
structure Mk (K : PySem.W.Frag) (C f : Addr) : Prop where
  makes : PySem.W.makesIn K C = true
  init : PySem.W.findIn K (.ref C) "__init__" = some (some (.ref f))
  fn : PySem.W.isFn K (.ref f) = true
  kp : PySem.W.keepIn K (.ref C) = true
theorem run_make {pins : List (Addr × Obj)} {σ : St} {H : Hp} {s : Shared} {Q : VK} {us : List Value} {vs : List V} (M : Mk X.K C f) (F : FnOk X.prog X.w X.K X.mg X.base CX k f fd ps sp) (hr : Room (k + 1) X.A) (hb : Binds X.K fd ps ds) (hd : Vals dvs ds)
    (hx : Passes CX X E) (I : Inv X pins σ H s) (r : Vals vs us)
    (h : ∀ x dx, H x = none → H dx = none → dx ≠ x → sp (.ref x :: (vs ++ dvs)) (upd (upd H dx (.own x)) x (.ins C dx [])) (fun v H2 => v = .non ∧ Q (.ref x) H2) E) :
    wpAny (model X.prog X.w) X.A (call (.ref C) us) (EP X pins σ Q) X.xe s := by
  have hq := h (s.heap.objs.size + 1) s.heap.objs.size (I.hok.fresh (Nat.le_succ _)) (I.hok.fresh (Nat.le_refl _)) (Nat.ne_of_lt (Nat.lt_succ_self _))
  have I2 := Inv.made (C := C) I
  have r2 : Vals (V.ref (s.heap.objs.size + 1) :: (vs ++ dvs)) (Value.ref (s.heap.objs.size + 1) :: (us ++ ds)) := .cons rfl (r.append hd)
  have hl : (Value.ref (s.heap.objs.size + 1) :: us ++ ds).length = ps.length := by
    have e := r2.length
    rw [F.len _ _ _ _ hq] at e
    exact e.symm
  refine wpAny_call (make_map (f := f) I.kIn M.makes M.init (beq_iff_eq.mp M.fn) (codeAny_mono (F.run _ X.stack _ _ ⟨Value.ref (s.heap.objs.size + 1) :: us, []⟩ (Value.ref (s.heap.objs.size + 1) :: (us ++ ds)) _ _ E (hr.make C us [])
    (I2.env0.make C us []) (hb _ (Value.ref (s.heap.objs.size + 1) :: us) I2.kIn hl) r2 hq) fun r s' hq' => ?_))
  cases r with
  | error e => exact hx pins σ _ _ e s' I2 hq'
  | ok fl =>
    cases fl with
    | ret u =>
      obtain ⟨v, H', I3, rv, ev, q3⟩ := I2.after hq'
      subst ev
      exact ⟨rv, ⟨V.ref (s.heap.objs.size + 1), H', I3, rfl, q3⟩⟩
    | next => exact False.elim hq'
    | brk => exact False.elim hq'
    | cont => exact False.elim hq'
theorem pe_make (M : Mk X.K C f) (F : FnOk X.prog X.w X.K X.mg X.base CX k f fd ps sp) (hr : Room (k + 1) X.A) (hg : Gl X x) (hm : X.mg x = some (.ref C)) (hb : Binds X.K fd ps ds) (hd : Vals dvs ds) (hx : Passes CX X E)
    (ha : PA X (e :: es) t) (hdb : (x == ("__debug__" : Str)) = false := by decide) (he : starEach (e :: es) X.env = (false, eval e X.env) :: starEach es X.env := by rfl) (hpl : (backTo pos (starEach es X.env)).any (·.1) = false := by rfl) :
    PE X (.Call (.Name x p) (e :: es) [] pos) (tMake C sp dvs E t) := by
  intro pins s σ H Q I h
  refine wpAny_Call_Name_kw (ld_glob I hg hm ?_ hdb)
  refine PySem.W.callWith_K (h₀ := X.base) I.ok.mod.kin M.kp (thn (ha pos pins s σ H _ I h) fun us s1 ⟨vs, H1, I1, r, q⟩ => ⟨I1.kIn, ?_⟩) he hpl
  exact run_make M F hr hb hd hx I1 r q
end
def PK (X : Cx) (kws : List Keyword) (t : TA) : Prop :=
  ∀ (pos : Pos) (pins : List (Addr × Obj)) (s : Shared) (σ : St) (H : Hp) (Q : List V → Hp → Prop), Inv X pins σ H s → t σ H Q → wpAny (model X.prog X.w) X.A (evalAll ((backToKw pos (keywordEach kws X.env)).map (·.2))) (AP X pins σ Q) X.xe s
section
variable {X : Cx} {CX : CXT} {k : Nat} {f C : Addr} {fd : FuncData} {ps ks : List Str} {sp : Sp} {E : XK} {x m : Str} {p pos apos kpos : Pos} {e o : Expr} {es : List Expr} {kws : List Keyword} {te ta : TE} {t tk : TA} {nm : Option Str}
theorem pk_nil : PK X [] tNil := fun _ _ _ _ H Q I h => wpAny_evalAll_nil ⟨[], H, I, .nil, h⟩
theorem pk_cons (ha : PE X e te) (hr : PK X kws t) : PK X (⟨nm, e, kpos⟩ :: kws) (tCons te t) := by
  intro pos pins s σ H Q I h
  show wpAny _ _ (evalAll ((do let v ← eval e X.env; standAt pos; pure v) :: (backToKw pos (keywordEach kws X.env)).map (·.2))) _ _ s
  refine wpAny_evalAll_cons (wpAny_bind (thn (ha pins s σ H _ I h) fun u s1 ⟨x, H1, I1, r1, q1⟩ => wpAny_bind (wpAny_standAt (wpAny_pure ?_))))
  exact thn (hr pos pins s1 σ H1 _ I1 q1) fun us s2 ⟨xs, H2, I2, r2, q2⟩ => ⟨x :: xs, H2, I2, .cons r1 r2, q2⟩
structure KBinds (K : PySem.W.Frag) (fd : FuncData) (ps ks : List Str) (g : List Value → List Value → List Value) (gV : List V → List V → List V) : Prop where
  to : ∀ (s : Shared) (us ws : List Value), K.In s.heap → (g us ws).length = ps.length → BindsTo s fd ⟨us, ks.zip ws⟩ (ps.zip (g us ws))
  rel : ∀ {vs : List V} {us : List Value} {zs : List V} {ws : List Value}, Vals vs us → Vals zs ws → Vals (gV vs zs) (g us ws)
variable {g : List Value → List Value → List Value} {gV : List V → List V → List V}
end
structure FnScope (N P : List Str) (sc : Scope) : Prop where
  kind : sc.kind = .function
  co : sc.isCoroutine = false
  gen : sc.isGenerator = false
  nd : N.Nodup
  pre : N.take P.length = P
  par : ∀ x ∈ P, sc.names.lookup x = some .local ∨ sc.names.lookup x = some .cell
  nofree : ∀ y ∈ sc.names, y.2 ≠ .free
theorem bindL_out {kindOf : Str → Option NameKind} {x : Str} : ∀ {binds : List (Str × Value)} {m : Str → Option Value}, (∀ v, (x, v) ∉ binds) → bindL kindOf binds m x = m x
  | [], _, _ => rfl
  | (n, v) :: r, m, h => by
    unfold bindL
    rw [bindL_out fun w hw => h w (List.mem_cons_of_mem _ hw)]
    split
    · have : x ≠ n := by rintro rfl; exact h v List.mem_cons_self
      simp [this]
    · rfl
theorem bindC_out {kindOf : Str → Option NameKind} {x : Str} : ∀ {binds : List (Str × Value)} {m : Str → Option Value}, (∀ v, (x, v) ∉ binds) → bindC kindOf binds m x = m x
  | [], _, _ => rfl
  | (n, v) :: r, m, h => by
    unfold bindC
    rw [bindC_out fun w hw => h w (List.mem_cons_of_mem _ hw)]
    split
    · rfl
    · have : x ≠ n := by rintro rfl; exact h v List.mem_cons_self
      simp [this]
theorem bindL_get {kindOf : Str → Option NameKind} {x : Str} {v : Value} : ∀ {P : List Str} {vs : List Value} {i : Nat} {m : Str → Option Value}, P.Nodup → P[i]? = some x → vs[i]? = some v → kindOf x = some .local →
    bindL kindOf (P.zip vs) m x = some v
  | [], _, _, _, _, h, _, _ => by simp at h
  | _ :: _, [], _, _, _, _, h, _ => by simp at h
  | p :: P, w :: vs, 0, m, nd, h1, h2, hk => by
    simp at h1 h2; subst h1; subst h2
    show bindL kindOf ((p, w) :: P.zip vs) m p = _
    unfold bindL
    rw [bindL_out fun v hv => (List.nodup_cons.mp nd).1 (List.of_mem_zip hv).1, if_pos hk]
    simp
  | p :: P, w :: vs, i + 1, m, nd, h1, h2, hk => by
    show bindL kindOf ((p, w) :: P.zip vs) m x = _
    unfold bindL
    exact bindL_get (i := i) (List.nodup_cons.mp nd).2 (by simpa using h1) (by simpa using h2) hk
theorem bindC_get {kindOf : Str → Option NameKind} {x : Str} {v : Value} : ∀ {P : List Str} {vs : List Value} {i : Nat} {m : Str → Option Value}, P.Nodup → P[i]? = some x → vs[i]? = some v → kindOf x ≠ some .local →
    bindC kindOf (P.zip vs) m x = some v
  | [], _, _, _, _, h, _, _ => by simp at h
  | _ :: _, [], _, _, _, _, h, _ => by simp at h
  | p :: P, w :: vs, 0, m, nd, h1, h2, hk => by
    simp at h1 h2; subst h1; subst h2
    show bindC kindOf ((p, w) :: P.zip vs) m p = _
    unfold bindC
    rw [bindC_out fun v hv => (List.nodup_cons.mp nd).1 (List.of_mem_zip hv).1, if_neg hk]
    simp
  | p :: P, w :: vs, i + 1, m, nd, h1, h2, hk => by
    show bindC kindOf ((p, w) :: P.zip vs) m x = _
    unfold bindC
    exact bindC_get (i := i) (List.nodup_cons.mp nd).2 (by simpa using h1) (by simpa using h2) hk
def start (N : List Str) (vs : List V) : St := vs.map some ++ List.replicate (N.length - vs.length) none
def cxOf (CX : CXT) (P : Program) (w : World) (K : PySem.W.Frag) (mg : Str → Option Value) (base : Heap) (N : List Str) (qual : Str) (scope : Scope) (f : Addr) (cd : Value) (A : Around) (outer : List Env) (s : Shared) (H : Hp) (E : XK) : Cx where
  prog := P
  w := w
  K := K
  mg := mg
  base := base
  A := A.deeper (envOfC qual scope s.heap.objs.size f cd)
  N := N
  s₀ := s
  H₀ := H
  env := envOfC qual scope s.heap.objs.size f cd
  outer := outer
  stack := envOfC qual scope s.heap.objs.size f cd :: outer
  ex := []
  calm := true
  fn := fun _ => true
  pn := []
  xe := fun e s' => wpAny (model P w) (A.deeper (envOfC qual scope s.heap.objs.size f cd)) (leaving (envOfC qual scope s.heap.objs.size f cd) e) (fun _ s'' => CX outer H s E e s'') (fun e' s'' => CX outer H s E e' s'') s'
theorem cell_has {sc : Scope} {n : Nat} {x : Str} (h : sc.names.lookup x = some .cell) : ∃ c, (cellsFrom n sc.names []).lookup x = some c := by
  have q := PySem.W.cellsFrom_some sc.names n [] (.inl h)
  exact Option.isSome_iff_exists.mp q
theorem inv_start {CX : CXT} {P : Program} {w : World} {K : PySem.W.Frag} {mg : Str → Option Value} {base : Heap} {N ps : List Str} {qual : Str} {scope : Scope} {f : Addr} {cd : Value} {A : Around} {outer : List Env} {s s1 : Shared} {H : Hp} {E : XK} {us : List Value} {vs : List V}
    (S : FnScope N ps scope) (hd : A.handled = none) (e0 : Env0 P w K mg base A outer s H) (hl : vs.length = ps.length) (r : Vals vs us)
    (x : InCallC s s.heap.objs.size (bindL (envOfC qual scope s.heap.objs.size f cd).kindOf (ps.zip us) fun _ => none) (cellsFrom (s.heap.objs.size + 1) scope.names []) (bindC (envOfC qual scope s.heap.objs.size f cd).kindOf (ps.zip us) fun _ => none) s1) :
    Inv (cxOf CX P w K mg base N qual scope f cd A outer s H E) [] (start N vs) H s1 := by
  have hpl : ps.length ≤ N.length := by have := congrArg List.length S.pre; rw [List.length_take] at this; omega
  obtain ⟨h1, tk, rfl, hk⟩ := x.done
  have noA : ∀ b : Addr, b ∉ (cxOf CX P w K mg base N qual scope f cd A outer s H E).ex := fun b z => absurd (show b ∈ ([] : List Addr) from z) (by simp)
  refine ⟨⟨e0.mod, S.kind, rfl, rfl, Nat.le_refl _, fun y z c h1 h2 => ?_, fun y hy => ?_, fun y c _ h => ?_, fun _ => hd, Around.frames_deeper e0.frames, .inr ⟨rfl, rfl⟩, fun b z => absurd z (noA b), e0.bs, e0.bsz, fun b _ _ => noA b, fun b z => absurd z (noA b), e0.funs, e0.frf⟩,
    rfl, e0.bare, Un.kept hk, ⟨_, x.toInCall.ns, fun i y v h1 h2 h3 => ?_⟩, fun y c h => ⟨_, x.cell y c h⟩, e0.hok.fresh (Nat.le_refl _), fun y c h => ?_, fun p hp => absurd (show p ∈ ([] : List (Addr × Obj)) from hp) (by simp), e0.hok.kept hk, ?_⟩
  · exact name_of_addr x.apart (PySem.mem_of_lookup h1) (PySem.mem_of_lookup h2)
  · have hy : scope.names.lookup y = some .cell ∨ scope.names.lookup y = some .free := hy
    rcases hy with hy | hy
    · exact cell_has hy
    · exact absurd rfl (S.nofree _ (PySem.mem_of_lookup hy))
  · exact Nat.le_of_lt (x.above y c (PySem.mem_of_lookup h))
  · have hi : i < vs.length := by
      unfold start at h2
      by_cases hi : i < vs.length
      · exact hi
      · rw [List.getElem?_append_right (by simpa using hi)] at h2
        rw [List.getElem?_replicate] at h2
        split at h2 <;> cases h2
    have ha : vs[i]? = some v := by
      unfold start at h2
      rw [List.getElem?_append_left (by simpa using hi), List.getElem?_map] at h2
      cases e : vs[i]? with
      | none => rw [e] at h2; cases h2
      | some a => rw [e] at h2; cases h2; rfl
    obtain ⟨u, hu, rv⟩ := r.get ha
    have hp : ps[i]? = some y := by
      rw [← S.pre, List.getElem?_take_of_lt (by omega)]; exact h1
    have ndP : ps.Nodup := by rw [← S.pre]; exact S.nd.sublist (List.take_sublist _ _)
    refine ⟨u, rv, ?_⟩
    rcases S.par y (List.mem_of_getElem? hp) with k | k
    · exact .inl ⟨k, bindL_get ndP hp hu k⟩
    · obtain ⟨c, e⟩ := cell_has (n := s.heap.objs.size + 1) k
      refine .inr ⟨.inl k, c, e, ?_⟩
      have q := x.cell y c e
      rw [bindC_get ndP hp hu (by show scope.names.lookup y ≠ _; rw [k]; decide)] at q
      exact q
  · exact e0.hok.fresh (Nat.le_of_lt (x.above y c (PySem.mem_of_lookup h)))
  · unfold start
    show _ = N.length
    rw [List.length_append, List.length_map, List.length_replicate]
    omega
theorem fn_of {CX : CXT} {P : Program} {w : World} {K : PySem.W.Frag} {mg : Str → Option Value} {base : Heap} {k : Nat} {f : Addr} {name qual : Str} {params : Arguments} {body : List Stmt} {scope : Scope} {dV kV doc pm cdv ct oc : Value} {an od : Option Addr}
    {osl : Array (Option Value)} {N ps : List Str} {sp : Sp} (lk : K.lookup f = some ⟨oc, od, .func (PySem.W.fnOf name qual params body scope dV kV doc pm an cdv ct), osl⟩) (hcd : PySem.W.codeIn K cdv qual = true) (S : FnScope N ps scope)
    (len : ∀ vs H Q E, sp vs H Q E → vs.length = ps.length)
    (hbody : ∀ (A : Around) (outer : List Env) (s : Shared) (H : Hp) (vs : List V) (Q : VK) (E : XK), Room k (A.deeper (envOfC qual scope s.heap.objs.size f cdv)) → sp vs H Q E →
      ∃ t, PSs (cxOf CX P w K mg base N qual scope f cdv A outer s H E) body t ∧ t { nx := fun _ H' => Q .non H', rt := Q } (start N vs) H) :
    FnOk P w K mg base CX (k + 1) f (PySem.W.fnOf name qual params body scope dV kV doc pm an cdv ct) ps sp := by
  refine ⟨len, fun A outer s H args us vs Q E hr e0 hb r hsp => ?_⟩
  have hl := len _ _ _ _ hsp
  have KX : K.In s.heap := e0.mod.kin.keeps fun b o e => (e0.bs b o e).1
  have lim : s.heap.NoLimit := e0.mod.nolimit.keeps fun b o e => (e0.bs b o e).1
  have hkind : ∀ y ∈ ps.zip us, scope.names.lookup y.1 = some .local ∨ (scope.names.lookup y.1 = some .cell ∧ ((cellsFrom (s.heap.objs.size + 1) scope.names []).lookup y.1).isSome = true) := fun ⟨n, v⟩ hy => by
    rcases S.par n (List.of_mem_zip hy).1 with q | q
    · exact .inl q
    · exact .inr ⟨q, PySem.W.cellsFrom_some _ _ _ (.inl q)⟩
  refine codeAny_call_function hr.depth (KX _ _ lk) rfl S.co S.gen rfl (PySem.W.codeRec_of KX hcd) (hb _ _ _ _ ?_)
  refine wpAny_newFunctionEnv_cells S.kind hkind fun env he s1 x => ?_
  subst he
  refine ⟨lim.keeps x.toInCall.keep, codeAny_func ?_⟩
  obtain ⟨t, ht, hq⟩ := hbody A outer s H vs Q E (hr.deeper _) hsp
  have I : Inv (cxOf CX P w K mg base N qual scope f cdv A outer s H E) [] (start N vs) H s1 := inv_start S hr.hd e0 hl r x
  refine wpAny_mono (ht [] s1 (start N vs) H _ I hq) (fun fl s' hs => ?_) fun e s' hs => hs
  have fin : ∀ {σ' : St} {H' : Hp} {v : V} {u : Value}, Inv (cxOf CX P w K mg base N qual scope f cdv A outer s H E) [] σ' H' s' → RelV v u → Q v H' → CE outer P w H s Q u s' :=
    fun {σ' H' v u} J rv q => ⟨v, H', J.os, J.bare, J.base, J.hok, rv, q⟩
  cases fl with
  | ret u =>
    obtain ⟨v, σ', H', J, rv, q⟩ := hs
    exact fin J rv q
  | next =>
    obtain ⟨σ', H', J, q⟩ := hs
    exact fin (v := V.non) (u := Value.none) J rfl q
  | brk =>
    obtain ⟨_, _, _, q⟩ := hs
    exact False.elim q
  | cont =>
    obtain ⟨_, _, _, q⟩ := hs
    exact False.elim q
end L2
namespace L2
open PySem PySem.Spec PyProof.Rows
section
variable {X : Cx} {x : Str} {p pos : Pos} {e : Expr} {es : List Expr} {t : TA} {id T : String} {r : List V → Hp → VK → Prop}
def tCB (r : List V → Hp → VK → Prop) (t : TA) : TE := fun σ H Q => t σ H fun vs H1 => r vs H1 Q
theorem pe_callB (hc : CallR X (.builtin id) r) (hg : Gl X x) (hm : X.mg x = none) (hv : bootBuiltins x = some (.builtin id)) (ha : PA X (e :: es) t) (hn : x ≠ "__name__" := by decide) (hdb : (x == ("__debug__" : Str)) = false := by decide)
    (he : starEach (e :: es) X.env = (false, eval e X.env) :: starEach es X.env := by rfl) (hpl : (backTo pos (starEach es X.env)).any (·.1) = false := by rfl) : PE X (.Call (.Name x p) (e :: es) [] pos) (tCB r t) := by
  intro pins s σ H Q I h
  refine wpAny_Call_Name_kw (ld_blt I hg hm hv ?_ hn hdb)
  exact PyProof.Rows.callWith_builtin1 (thn (ha pos pins s σ H _ I h) fun us s1 ⟨vs, H1, I1, r1, q1⟩ => hc pins s1 σ H1 vs us Q I1 r1 q1) he hpl
theorem pe_callTy (hc : CallR X (.type T) r) (hg : Gl X x) (hm : X.mg x = none) (hv : bootBuiltins x = some (.type T)) (ha : PA X (e :: es) t) (hn : x ≠ "__name__" := by decide) (hdb : (x == ("__debug__" : Str)) = false := by decide)
    (he : starEach (e :: es) X.env = (false, eval e X.env) :: starEach es X.env := by rfl) (hpl : (backTo pos (starEach es X.env)).any (·.1) = false := by rfl) : PE X (.Call (.Name x p) (e :: es) [] pos) (tCB r t) := by
  intro pins s σ H Q I h
  refine wpAny_Call_Name_kw (ld_blt I hg hm hv ?_ hn hdb)
  exact PyProof.Rows.callWith_type1 (thn (ha pos pins s σ H _ I h) fun us s1 ⟨vs, H1, I1, r1, q1⟩ => hc pins s1 σ H1 vs us Q I1 r1 q1) he hpl
end
end L2
namespace HT
open PySem PyProof.Rows
section
open PySem.SeqAt
open PySem.AutoSeq1 (wpAny_loadPart')
open PySem.MeetsSeq PySem.MeetsSeq2 PySem.MeetsSeq3
end
section
variable {prog : Program} {w : World} {A : Around} {E : Value → Shared → Prop} {s : Shared}
theorem cat_tup {t b : Addr} {vs ws : List Value} {Q : Value → Shared → Prop} (ht : IsTup s.heap t vs.toArray) (hb : IsTup s.heap b ws.toArray) (hv : vs ≠ [])
    (h1 : ws = [] → Q (.ref t) s) (h2 : ws ≠ [] → Q (.ref s.heap.objs.size) { s with heap := s.heap.push { cls := .type "tuple", data := .seq (vs ++ ws).toArray } })
    (hsz : vs.length + ws.length ≤ sizeLine) : wpAny (model prog w) A (binaryOp .Add (.ref t) (.ref b)) Q E s := by
  obtain ⟨⟨cls, dd, data, sl⟩, ho, hc, n, hd⟩ := id ht
  obtain ⟨⟨cls2, dd2, data2, sl2⟩, ho2, hc2, n2, hd2⟩ := id hb
  simp only at hc hd hc2 hd2
  subst hc hd hc2 hd2
  have e : vs.toArray ++ ws.toArray = (vs ++ ws).toArray := by simp
  by_cases hw : ws = []
  · exact concat_meets ⟨_, ho, rfl⟩ ⟨_, ho2, rfl⟩ noFill_tuple_add seq_tuple_add PySem.F.slot_tuple_add PySem.F.entry_tuple_add (PySem.F.args_tuple_add_2 _ _)
      (tuple_addW1 t b vs.toArray ws.toArray n n2 dd dd2 sl sl2 (by simpa using hv) (by simp [hw])) ⟨ho, ho2, h1 hw⟩
  · refine concat_meets ⟨_, ho, rfl⟩ ⟨_, ho2, rfl⟩ noFill_tuple_add seq_tuple_add PySem.F.slot_tuple_add PySem.F.entry_tuple_add (PySem.F.args_tuple_add_2 _ _)
      (tuple_addW2 t b vs.toArray ws.toArray n n2 dd dd2 sl sl2 (by simpa using hv) (by simpa using hw) (by rw [List.size_toArray, List.size_toArray]; exact hsz)) ⟨ho, ho2, ?_⟩
    rw [e]
    exact h2 hw
def sIx (n d : Nat) : Option Int → Nat
  | none => d
  | some v => if v < 0 then (v + (n : Int)).toNat else min v.toNat n
theorem sIx_none (n d : Nat) : sIx n d none = d := rfl
theorem sIx_nat (n d k : Nat) : sIx n d (some (k : Int)) = min k n := by
  show (if (k : Int) < 0 then ((k : Int) + (n : Int)).toNat else min (k : Int).toNat n) = min k n
  rw [if_neg (by omega), Int.toNat_natCast]
theorem sIx_le (n d : Nat) (hd : d ≤ n) (o : Option Int) : sIx n d o ≤ n := by
  cases o with
  | none => exact hd
  | some v =>
    show (if v < 0 then (v + (n : Int)).toNat else min v.toNat n) ≤ n
    by_cases hv : v < 0
    · rw [if_pos hv]; omega
    · rw [if_neg hv]; exact Nat.min_le_right _ _
theorem clip_eq (v : Int) (n d : Nat) : (if v < 0 then max (v + (n : Int)) 0 else min v (n : Int)) = ((sIx n d (some v) : Nat) : Int) := by
  show (if v < 0 then max (v + (n : Int)) 0 else min v (n : Int)) = (((if v < 0 then (v + (n : Int)).toNat else min v.toNat n) : Nat) : Int)
  by_cases hv : v < 0
  · simp only [if_pos hv]; omega
  · simp only [if_neg hv]; omega
theorem adjust_gen (lo hi : Option Int) (n : Nat) : Builtin.Slice.sliceAdjust lo hi 1 (n : Int) = (((sIx n 0 lo : Nat) : Int), ((sIx n n hi : Nat) : Int)) := by
  have h1 : ¬ ((1 : Int) < 0) := by omega
  unfold Builtin.Slice.sliceAdjust
  simp only [h1, if_false]
  refine Prod.ext ?_ ?_
  · cases lo with
    | none => rfl
    | some v => exact clip_eq v n 0
  · cases hi with
    | none => rfl
    | some v => exact clip_eq v n n
theorem places_gen (i j : Nat) : Builtin.Slice.slicePlaces (i : Int) (j : Int) 1 = j - i := by
  unfold Builtin.Slice.slicePlaces
  have h1 : (1 : Int) > 0 := by omega
  simp only [h1, if_true, Int.ediv_one]
  split <;> omega
theorem slicePart_ {v : Value} {o : Option Int} {Q : Option Int → Shared → Prop} (p : IsPart v o) (h : Q o s) : wpAny (model prog w) A (Builtin.Slice.slicePartIndex v) Q E s := by
  cases p with
  | none => exact slicePart_none h
  | int i t => exact slicePart_int h
theorem sliceApplied_gen {sl : Addr} {vl vu : Value} {lo hi : Option Int} {n : Nat} {Q : Int × Int × Nat → Shared → Prop} (hs : s.heap.IsSliceOf sl vl vu .none) (pl : IsPart vl lo) (pu : IsPart vu hi)
    (h : Q (((sIx n 0 lo : Nat) : Int), 1, sIx n n hi - sIx n 0 lo) s) : wpAny (model prog w) A (Builtin.Slice.sliceApplied (.ref sl) (pure (n : Int))) Q E s := by
  obtain ⟨os, hos, hcs, hds⟩ := id hs
  unfold Builtin.Slice.sliceApplied Builtin.Slice.sliceFields
  refine wpAny_bind (wpAny_bind (wpAny_field hos hds (x := vl) rfl (wpAny_bind (wpAny_field hos hds (x := vu) rfl (wpAny_bind (wpAny_field hos hds (x := .none) rfl (wpAny_pure ?_)))))))
  refine wpAny_bind (slicePart_none ?_)
  show wpAny _ _ (if ((1 : Int) == 0) = true then _ else _) _ _ s
  rw [if_neg (by decide)]
  refine wpAny_bind (slicePart_ pl (wpAny_bind (slicePart_ pu (wpAny_bind (wpAny_pure ?_)))))
  show wpAny _ _ (match Builtin.Slice.sliceAdjust lo hi 1 (n : Int) with | (lo, hi) => pure (lo, (1 : Int), Builtin.Slice.slicePlaces lo hi 1)) _ _ s
  rw [adjust_gen lo hi n]
  show wpAny _ _ (pure (((sIx n 0 lo : Nat) : Int), (1 : Int), Builtin.Slice.slicePlaces ((sIx n 0 lo : Nat) : Int) ((sIx n n hi : Nat) : Int) 1)) _ _ s
  rw [places_gen]
  exact wpAny_pure h
theorem pick_gen (xs : Array Value) (i k : Nat) : ((List.range k).filterMap fun (m : Nat) => xs[((i : Int) + (m : Int) * 1).toNat]?).toArray = ((xs.toList.drop i).take k).toArray := by
  have e : (fun (m : Nat) => xs[((i : Int) + (m : Int) * 1).toNat]?) = fun m => xs[i + m]? := by
    funext m
    have : ((i : Int) + (m : Int) * 1).toNat = i + m := by omega
    rw [this]
  rw [e]
  have := pick_run xs i k
  rw [List.filterMap_map] at this
  have e2 : ((fun x => xs[x]?) ∘ fun x => i + x) = fun m => xs[i + m]? := rfl
  rw [e2] at this
  rw [this]
theorem getItem_tuple_cut {t sl : Addr} {items : Array Value} {vl vu : Value} {lo hi : Option Int} {Q : Value → Shared → Prop} (ht : IsTup s.heap t items) (hs : s.heap.IsSliceOf sl vl vu .none) (pl : IsPart vl lo) (pu : IsPart vu hi)
    (hw : ¬ (sIx items.size 0 lo = 0 ∧ sIx items.size items.size hi = items.size))
    (h : Q (.ref s.heap.objs.size) { s with heap := s.heap.push { cls := .type "tuple", data := .seq ((items.toList.drop (sIx items.size 0 lo)).take (sIx items.size items.size hi - sIx items.size 0 lo)).toArray } })
    (hsz : items.size ≤ sizeLine) : wpAny (model prog w) A (getItem (.ref t) (.ref sl)) Q E s := by
  have htake : sizeOk (.seq ((items.toList.drop (sIx items.size 0 lo)).take (sIx items.size items.size hi - sIx items.size 0 lo)).toArray) := by
    show ((items.toList.drop (sIx items.size 0 lo)).take (sIx items.size items.size hi - sIx items.size 0 lo)).toArray.size ≤ sizeLine
    rw [List.size_toArray, List.length_take, List.length_drop, Array.length_toList]
    omega
  have hj : sIx items.size items.size hi ≤ items.size := sIx_le _ _ (Nat.le_refl _) hi
  obtain ⟨os, hos, hcs, hds⟩ := id hs
  have hTs : s.TypeIs (.ref sl) "slice" := ⟨os, hos, hcs⟩
  unfold getItem
  try with_reducible refine wpAny_holding ?_
  first | refine wpAny_bind (wpAny_pure ?_) | skip
  refine wpAny_bind (wpAny_sequenceKey ht.typeIs (by decide) ?_)
  refine wpAny_bind (wpAny_callSpecial?_slot (name := Str.ofString "__getitem__") ht.typeIs PyProof.Rows.slot_tuple_getitem
    (wpAny_call_entry PyProof.Rows.slot_tuple_getitem ht.typeIs entry_tuple_getitem ?_ (args_tuple_getitem _ _)))
  show wpAny _ _ (Builtin.Tuple.tupleItemsOf (.ref t) >>= _) _ _ s
  refine wpAny_bind (tupleItemsOf_ ht ?_)
  refine wpAny_bind (wpAny_typeOf hTs ?_)
  rw [if_pos (by decide)]
  refine wpAny_bind (sliceApplied_gen hs pl pu ?_)
  have hno : ¬ ((((sIx items.size 0 lo : Nat) : Int) == 0 && (1 : Int) == 1 && (sIx items.size items.size hi - sIx items.size 0 lo) == items.size) = true) := by
    intro q
    rw [Bool.and_eq_true, Bool.and_eq_true] at q
    have q1 : ((sIx items.size 0 lo : Nat) : Int) = 0 := eq_of_beq q.1.1
    have q2 : sIx items.size items.size hi - sIx items.size 0 lo = items.size := eq_of_beq q.2
    exact hw ⟨by omega, by omega⟩
  show wpAny _ _ (if (((sIx items.size 0 lo : Nat) : Int) == 0 && (1 : Int) == 1 && (sIx items.size items.size hi - sIx items.size 0 lo) == items.size) = true then _ else _) _ _ s
  rw [if_neg hno, pick_gen]
  first
    | exact wpAny_bind (m := Builtin.Tuple.tupleExact _) (wpAny_newObj_type (wpAny_pure ⟨_, rfl, wpAny_pure h⟩) htake)
    | exact wpAny_bind (m := Builtin.Tuple.tupleExact _) (wpAny_newObj_type (wpAny_bind (wpAny_pure (wpAny_pure ⟨_, rfl, wpAny_pure h⟩))) htake)
    | exact wpAny_bind (wpAny_bind (m := Builtin.Tuple.tupleExact _) (wpAny_newObj_type (wpAny_pure (wpAny_pure ⟨_, rfl, wpAny_pure h⟩)) htake))
    | exact wpAny_bind (wpAny_bind (m := Builtin.Tuple.tupleExact _) (wpAny_newObj_type (wpAny_pure ⟨_, rfl, wpAny_pure h⟩) htake))
end
end HT
namespace L2
open PySem PySem.Spec PyProof.Rows
abbrev TO := St → Hp → (Option Int → Hp → Prop) → Prop
def PO (X : Cx) (e : Option Expr) (t : TO) : Prop :=
  ∀ (pins : List (Addr × Obj)) (s : Shared) (σ : St) (H : Hp) (Q : Option Int → Hp → Prop), Inv X pins σ H s → t σ H Q →
    wpAny (model X.prog X.w) X.A (evalPart e X.env) (fun u s' => ∃ o H', Inv X pins σ H' s' ∧ IsPart u o ∧ Q o H') X.xe s
def tNoPart : TO := fun _ H Q => Q none H
def tPart (t : TE) : TO := fun σ H Q => t σ H fun x H1 => ∃ i, x = .int i ∧ Q (some i) H1
section
variable {X : Cx} {e : Expr} {te : TE} {lo hi : Option Expr} {tl th : TO} {pos p2 : Pos}
theorem po_none : PO X none tNoPart := by
  intro pins s σ H Q I h
  rw [evalPart_none]
  exact wpAny_pure ⟨none, H, I, .none, h⟩
theorem po_some (h : PE X e te) : PO X (some e) (tPart te) := by
  intro pins s σ H Q I hw
  rw [evalPart_some]
  refine thn (h pins s σ H _ I hw) fun u s1 ⟨x, H1, I1, r1, q1⟩ => ?_
  obtain ⟨i, rfl, q⟩ := q1
  obtain ⟨t, rfl⟩ := r1
  exact ⟨some i, H1, I1, .int i t, q⟩
def SlR (X : Cx) (r : V → Option Int → Option Int → Hp → VK → Prop) : Prop :=
  ∀ (pins : List (Addr × Obj)) (s : Shared) (σ : St) (H : Hp) (x : V) (v vl vu : Value) (lo hi : Option Int) (sl : Addr) (Q : VK), Inv X pins σ H s → RelV x v → s.heap.IsSliceOf sl vl vu .none → IsPart vl lo → IsPart vu hi → r x lo hi H Q →
    ∃ T id, typeLookup (.type T) "__getitem__" = pure (some (.builtin id)) ∧ s.TypeIs v T ∧ wpAny (model X.prog X.w) X.A (getItem v (.ref sl)) (EP X pins σ Q) X.xe s
def tSl (r : V → Option Int → Option Int → Hp → VK → Prop) (te : TE) (tl th : TO) : TE := fun σ H Q => te σ H fun x H1 => tl σ H1 fun l H2 => th σ H2 fun u H3 => r x l u H3 Q
theorem pe_slice {r : V → Option Int → Option Int → Hp → VK → Prop} (hr : SlR X r) (he : PE X e te) (hl : PO X lo tl) (hu : PO X hi th) : PE X (.Subscript e (.Slice lo hi none p2) pos) (tSl r te tl th) := by
  intro pins s σ H Q I h
  refine Subscript_ (thn (he pins s σ H _ I h) fun v s1 ⟨x, H1, I1, r1, q1⟩ => ?_)
  refine wpAny_Slice (thn (hl pins s1 σ H1 _ I1 q1) fun vl s2 ⟨l, H2, I2, pl, q2⟩ => thn (hu pins s2 σ H2 _ I2 q2) fun vu s3 ⟨u, H3, I3, pu, q3⟩ => ?_)
  rw [evalPart_none]
  refine wpAny_pure ?_
  have I4 : Inv X pins σ H3 { s3 with heap := s3.heap.push { cls := .type "slice", data := .fields #[vl, vu, .none] } } := I3.kept (t' := s3.toks) fun b ob q => Heap.get?_push_of_some _ q
  obtain ⟨T, id, hT, ht, hg⟩ := hr pins { s3 with heap := s3.heap.push { cls := .type "slice", data := .fields #[vl, vu, .none] } } σ H3 x v vl vu l u s3.heap.objs.size Q I4 r1 (Heap.IsSliceOf.new ..) pl pu q3
  show wpAny (model X.prog X.w) X.A (subscriptTail e (.Slice lo hi none p2) v (.ref s3.heap.objs.size)) (EP X pins σ Q) X.xe { s3 with heap := s3.heap.push { cls := .type "slice", data := .fields #[vl, vu, .none] } }
  exact tail_any (ops := [.ref s3.heap.objs.size, v]) ht hT hg (by with_unfolding_all rfl)
def cutV (xs : List V) (lo hi : Option Int) : List V := (xs.drop (HT.sIx xs.length 0 lo)).take (HT.sIx xs.length xs.length hi - HT.sIx xs.length 0 lo)
theorem cutV_length (xs : List V) (lo hi : Option Int) : (cutV xs lo hi).length ≤ xs.length := by
  unfold cutV
  rw [List.length_take, List.length_drop]
  omega
def rSlT (K : PySem.W.Frag) : V → Option Int → Option Int → Hp → VK → Prop := fun x lo hi H Q => ∃ a xs, x = .ref a ∧ SqT K H a xs ∧
  ¬ (HT.sIx xs.length 0 lo = 0 ∧ HT.sIx xs.length xs.length hi = xs.length) ∧ ∀ p, H p = none → Q (.ref p) (upd H p (.tup (cutV xs lo hi)))
theorem sl_tup : SlR X (rSlT X.K) := by
  intro pins s σ H x v vl vu lo hi sl Q I rx hs pl pu h
  obtain ⟨a, xs, rfl, hx, hw, q⟩ := h
  cases rx
  obtain ⟨its, r, ht, hz⟩ := I.tuple hx
  have hlen : its.toArray.size = xs.length := by rw [List.size_toArray]; exact r.length.symm
  refine ⟨"tuple", _, PyProof.Rows.slot_tuple_getitem.lookup, ht.typeIs, ?_⟩
  refine HT.getItem_tuple_cut ht hs pl pu (by rw [hlen]; exact hw) ?_ (by rw [hlen]; exact hz)
  rw [hlen]
  refine ⟨.ref s.heap.objs.size, _, I.laid (t' := s.toks) (o := .tup (cutV xs lo hi)) (fun b ob q => Heap.get?_push_of_some _ q) (Nat.le_refl _) ?_, rfl, q _ (I.hok.fresh (Nat.le_refl _))⟩
  exact ⟨Nat.le_trans (cutV_length xs lo hi) hz, _, (r.drop (HT.sIx xs.length 0 lo)).take (HT.sIx xs.length xs.length hi - HT.sIx xs.length 0 lo), IsTup.new _ _⟩
def rCatT (K : PySem.W.Frag) : R2 := fun x y H Q => ∃ a b xs ys, x = .ref a ∧ y = .ref b ∧ SqT K H a xs ∧ SqT K H b ys ∧ xs ≠ [] ∧ xs.length + ys.length ≤ sizeLine ∧
  (ys = [] → Q (.ref a) H) ∧ (ys ≠ [] → ∀ p, H p = none → Q (.ref p) (upd H p (.tup (xs ++ ys))))
theorem Vals.nil_iff {xs : List V} {us : List Value} (r : Vals xs us) : us = [] ↔ xs = [] := by
  cases r with
  | nil => simp
  | cons _ _ => simp
theorem op_catT : OpR X (binaryOp .Add) (rCatT X.K) := by
  intro pins s σ H x y v u Q I rx ry h
  obtain ⟨a, b, xs, ys, rfl, rfl, ha, hb, hx, hz, q1, q2⟩ := h
  cases rx
  cases ry
  obtain ⟨its, r1, p1, _⟩ := I.tuple ha
  obtain ⟨its2, r2, p2, _⟩ := I.tuple hb
  refine HT.cat_tup p1 p2 (fun z => hx (r1.nil_iff.mp z)) (fun z => ⟨.ref a, H, I, rfl, q1 (r2.nil_iff.mp z)⟩) (fun z => ?_) (by rw [← r1.length, ← r2.length]; exact hz)
  refine ⟨.ref s.heap.objs.size, _, I.laid (t' := s.toks) (o := .tup (xs ++ ys)) (fun b ob q => Heap.get?_push_of_some _ q) (Nat.le_refl _) ?_, rfl, q2 (fun w => z (r2.nil_iff.mpr w)) _ (I.hok.fresh (Nat.le_refl _))⟩
  exact ⟨by rw [List.length_append]; exact hz, _, r1.append r2, IsTup.new _ _⟩
end
end L2
namespace L2
open PySem PySem.Spec PyProof.Rows
def ixN (n : Nat) (i : Int) : Option Nat := if 0 ≤ i then (if i < n then some i.toNat else none) else if -(n : Int) ≤ i then some (i + n).toNat else none
def atI {α : Type} (xs : List α) (i : Int) : Option α := (ixN xs.length i).bind fun j => xs[j]?
theorem ixN_seq {n : Nat} {i : Int} {j : Nat} (h : ixN n i = some j) : seqIndex? i n = some j ∧ j < n ∧ -(n : Int) ≤ i ∧ i < n := by
  unfold ixN at h
  by_cases h0 : 0 ≤ i
  · rw [if_pos h0] at h
    by_cases h1 : i < n
    · rw [if_pos h1] at h
      have e : i.toNat = j := Option.some.inj h
      exact ⟨by rw [seqIndex_of h0 h1, e], by omega, by omega, h1⟩
    · rw [if_neg h1] at h; cases h
  · rw [if_neg h0] at h
    by_cases h1 : -(n : Int) ≤ i
    · rw [if_pos h1] at h
      have e : (i + n).toNat = j := Option.some.inj h
      exact ⟨by rw [seqIndex_neg (by omega) h1, e], by omega, h1, by omega⟩
    · rw [if_neg h1] at h; cases h
theorem atI_get {α : Type} {xs : List α} {i : Int} {v : α} (h : atI xs i = some v) : ∃ j, seqIndex? i xs.length = some j ∧ xs[j]? = some v ∧ j < xs.length ∧ -(xs.length : Int) ≤ i ∧ i < xs.length := by
  unfold atI at h
  cases e : ixN xs.length i with
  | none => rw [e] at h; cases h
  | some j =>
    rw [e] at h
    obtain ⟨h1, h2, h3, h4⟩ := ixN_seq e
    exact ⟨j, h1, h, h2, h3, h4⟩
theorem atI_nat {α : Type} {xs : List α} {j : Nat} {v : α} (h : xs[j]? = some v) : atI xs (j : Int) = some v := by
  have hj : j < xs.length := (List.getElem?_eq_some_iff.mp h).1
  have e : ixN xs.length (j : Int) = some j := by
    unfold ixN
    rw [if_pos (by omega), if_pos (by omega)]; simp
  unfold atI; rw [e]; exact h
def PlainIx (b : Expr) : Prop := ∀ o i, subscripted b false o i = operate [o, i] (getItem o i)
def IxR (X : Cx) (r : R2) : Prop :=
  ∀ (value slice : Expr) (pins : List (Addr × Obj)) (s : Shared) (σ : St) (H : Hp) (x y : V) (v u : Value) (Q : VK), Inv X pins σ H s → RelV x v → RelV y u → r x y H Q →
    subscripted slice false v u = operate [v, u] (getItem v u) → wpAny (model X.prog X.w) X.A (subscriptTail value slice v u) (EP X pins σ Q) X.xe s
def MtR (X : Cx) (id : String) (r : V → List V → Hp → VK → Prop) : Prop :=
  ∀ (pins : List (Addr × Obj)) (s : Shared) (σ : St) (H : Hp) (x : V) (xs : List V) (v : Value) (us : List Value) (Q : VK), Inv X pins σ H s → RelV x v → Vals xs us → r x xs H Q →
    wpAny (model X.prog X.w) X.A (call (.builtin id) (v :: us)) (EP X pins σ Q) X.xe s
section
variable {X : Cx} {a b : Expr} {ta tb : TE} {pos : Pos}
theorem pe_ix {r : R2} (hr : IxR X r) (ha : PE X a ta) (hb : PE X b tb) (hs : PlainIx b) : PE X (.Subscript a b pos) (tOp r ta tb) := by
  intro pins s σ H Q I h
  exact Subscript_ (binT ha hb I h fun v u s2 x y H2 I2 rx ry q => hr a b pins s2 σ H2 x y v u Q I2 rx ry q (hs _ _))
def rIxL (K : PySem.W.Frag) : R2 := fun x y H Q => ∃ p xs i v, x = .ref p ∧ y = .int i ∧ SqL K H p xs ∧ atI xs i = some v ∧ Q v H
def rIxT (K : PySem.W.Frag) : R2 := fun x y H Q => ∃ p xs i v, x = .ref p ∧ y = .int i ∧ SqT K H p xs ∧ atI xs i = some v ∧ Q v H
theorem ix_list : IxR X (rIxL X.K) := by
  intro value slice pins s σ H x y v u Q I rx ry h hs
  obtain ⟨p, xs, i, z, rfl, rfl, hq, he, q⟩ := h
  cases rx
  obtain ⟨t, rfl⟩ := ry
  obtain ⟨its, r, pl, hz⟩ := I.list hq
  obtain ⟨j, h1, h2, h3, h4, h5⟩ := atI_get he
  obtain ⟨w, ew, rw'⟩ := r.get h2
  have hl := r.length
  have hn := line63
  have fin : EP X pins σ Q w s := ⟨z, H, I, rw', q⟩
  by_cases h0 : 0 ≤ i
  · have hj : i.toNat = j := by
      rw [seqIndex_of h0 h5] at h1
      exact Option.some.inj h1
    exact item_listR pl.isList h0 (by omega) (by rw [hj]; simpa using ew) fin hs
  · have hj : (i + (its.toArray.size : Int)).toNat = j := by
      rw [seqIndex_neg (by omega) h4] at h1
      rw [List.size_toArray, ← hl]
      exact Option.some.inj h1
    exact subscriptTail_builtinR (x := w) pl.isList.typeIs slot_list_getitem.lookup
      (wpAny_getItem_list_neg (Q := fun r s' => r = w ∧ EP X pins σ Q r s') pl.isList (by omega) (by rw [List.size_toArray] <;> omega) (by omega) (by rw [hj]; simpa using ew) ⟨rfl, fin⟩) hs
theorem ix_tup : IxR X (rIxT X.K) := by
  intro value slice pins s σ H x y v u Q I rx ry h hs
  obtain ⟨p, xs, i, z, rfl, rfl, hq, he, q⟩ := h
  cases rx
  obtain ⟨t, rfl⟩ := ry
  obtain ⟨its, r, pl, hz⟩ := I.tuple hq
  obtain ⟨j, h1, h2, h3, h4, h5⟩ := atI_get he
  obtain ⟨w, ew, rw'⟩ := r.get h2
  have hl := r.length
  have hn := line63
  have fin : EP X pins σ Q w s := ⟨z, H, I, rw', q⟩
  exact subscriptTail_builtinR (x := w) pl.typeIs slot_tuple_getitem.lookup
    (getItem_tuple (j := j) (Q := fun r s' => r = w ∧ EP X pins σ Q r s') pl (by omega) (by omega) (by rw [List.size_toArray, ← hl]; exact h1) (by simpa using ew) ⟨rfl, fin⟩) hs
theorem Inv.lst {pins : List (Addr × Obj)} {σ : St} {H : Hp} {s : Shared} {p : Addr} {xs : List V} (I : Inv X pins σ H s) (h : H p = some (.lst xs)) :
    ∃ (its : List Value) (n : Nat), Vals xs its ∧ s.heap.get? p = some { cls := .type "list", data := .seq its.toArray n } ∧ xs.length ≤ sizeLine := by
  obtain ⟨z, its, n, r, e⟩ := I.hok p _ h
  exact ⟨its, n, r, e, z⟩
theorem slice_bounds (lo hi : Option Int) (n : Nat) : (sliceBounds lo hi none n).1 = ((HT.sIx n 0 lo : Nat) : Int) ∧ (sliceBounds lo hi none n).2.1 = ((HT.sIx n n hi : Nat) : Int) ∧ (sliceBounds lo hi none n).2.2 = 1 := by
  refine ⟨?_, ?_, rfl⟩
  · cases lo with
    | none => simp [sliceBounds, HT.sIx]
    | some i =>
      simp only [sliceBounds, HT.sIx, Option.getD_none, show (1 : Int) > 0 by decide, if_true]
      by_cases h : i < 0
      · simp only [h, if_true] <;> omega
      · simp only [h, if_false] <;> omega
  · cases hi with
    | none => simp [sliceBounds, HT.sIx]
    | some i =>
      simp only [sliceBounds, HT.sIx, Option.getD_none, show (1 : Int) > 0 by decide, if_true]
      by_cases h : i < 0
      · simp only [h, if_true] <;> omega
      · simp only [h, if_false] <;> omega
theorem slicePick_cut (its : List Value) (lo hi : Option Int) : slicePick its.toArray lo hi none = ((its.drop (HT.sIx its.length 0 lo)).take (HT.sIx its.length its.length hi - HT.sIx its.length 0 lo)).toArray := by
  obtain ⟨h1, h2, h3⟩ := slice_bounds lo hi its.toArray.size
  unfold slicePick
  rw [h1, h2, h3]
  simp only [sliceRange_one, pick_run, List.size_toArray] <;> rfl
def rSlL (K : PySem.W.Frag) : V → Option Int → Option Int → Hp → VK → Prop := fun x lo hi H Q => ∃ a xs, x = .ref a ∧ SqL K H a xs ∧ ∀ p, H p = none → Q (.ref p) (upd H p (.lst (cutV xs lo hi)))
theorem sl_list : SlR X (rSlL X.K) := by
  intro pins s σ H x v vl vu lo hi sl Q I rx hs pl pu h
  obtain ⟨a, xs, rfl, hx, q⟩ := h
  cases rx
  obtain ⟨its, r, ht, hz⟩ := I.list hx
  have hlen := r.length
  refine ⟨"list", _, slot_list_getitem.lookup, ht.isList.typeIs, ?_⟩
  refine wpAny_getItem_list_slice ht.isList hs pl pu .none (by simp) ?_ (by rw [List.size_toArray] <;> omega)
  rw [slicePick_cut, ← hlen]
  refine ⟨.ref s.heap.objs.size, _, I.laid (t' := s.toks) (o := .lst (cutV xs lo hi)) (fun b ob q => Heap.get?_push_of_some _ q) (Nat.le_refl _) ?_, rfl, q _ (I.hok.fresh (Nat.le_refl _))⟩
  exact ⟨Nat.le_trans (cutV_length xs lo hi) hz, _, 0, (r.drop (HT.sIx xs.length 0 lo)).take (HT.sIx xs.length xs.length hi - HT.sIx xs.length 0 lo), Heap.get?_push_size _ rfl⟩
def flatV : V → Bool
  | .non => true
  | .bl _ => true
  | .int _ => true
  | .str _ => true
  | _ => false
def eqV : V → V → Bool
  | .non, .non => true
  | .bl a, .bl b => a == b
  | .bl a, .int b => (if a then 1 else 0) == b
  | .int a, .bl b => a == (if b then 1 else 0)
  | .int a, .int b => a == b
  | .str a, .str b => a == b
  | _, _ => false
theorem eqAt_V {A : Around} {s : Shared} {y x : V} {u v : Value} (ry : RelV y u) (rx : RelV x v) (fy : flatV y = true) (fx : flatV x = true) : SeqAt.EqAt A s u v (eqV y x) := by
  cases y with
  | non =>
    cases ry
    cases x with
    | non => cases rx; exact SeqAt.EqAt.same _
    | bl b => cases rx; exact SeqAt.EqAt.none_bool b
    | int b => obtain ⟨t, rfl⟩ := rx; exact SeqAt.EqAt.none_int b t
    | str b => obtain ⟨t, rfl⟩ := rx; exact SeqAt.EqAt.none_str b t
    | _ => exact absurd (show false = true from fx) Bool.false_ne_true
  | bl a =>
    cases ry
    cases x with
    | non => cases rx; exact SeqAt.EqAt.bool_none a
    | bl b => cases rx; exact SeqAt.EqAt.bool_bool a b
    | int b => obtain ⟨t, rfl⟩ := rx; exact SeqAt.EqAt.bool_int a b t
    | str b => obtain ⟨t, rfl⟩ := rx; exact SeqAt.EqAt.bool_str a b t
    | _ => exact absurd (show false = true from fx) Bool.false_ne_true
  | int a =>
    obtain ⟨t', rfl⟩ := ry
    cases x with
    | non => cases rx; exact SeqAt.EqAt.int_none a t'
    | bl b => cases rx; exact SeqAt.EqAt.int_bool a t' b
    | int b => obtain ⟨t, rfl⟩ := rx; exact SeqAt.EqAt.int_int a t' b t
    | str b => obtain ⟨t, rfl⟩ := rx; exact SeqAt.EqAt.int_str a t' b t
    | _ => exact absurd (show false = true from fx) Bool.false_ne_true
  | str a =>
    obtain ⟨t', rfl⟩ := ry
    cases x with
    | non => cases rx; exact SeqAt.EqAt.str_none a t'
    | bl b => cases rx; exact SeqAt.EqAt.str_bool a t' b
    | int b => obtain ⟨t, rfl⟩ := rx; exact SeqAt.EqAt.str_int a t' b t
    | str b => obtain ⟨t, rfl⟩ := rx; exact SeqAt.EqAt.str_str a t' b t
    | _ => exact absurd (show false = true from fx) Bool.false_ne_true
  | _ => exact absurd (show false = true from fy) Bool.false_ne_true
def eqU (x : V) (u : Value) : Bool := match u with
  | .none => eqV .non x
  | .bool b => eqV (.bl b) x
  | .int i _ => eqV (.int i) x
  | .str z _ => eqV (.str z) x
  | _ => false
theorem eqU_of {x y : V} {u : Value} (r : RelV y u) (f : flatV y = true) : eqU x u = eqV y x := by
  cases y with
  | non => cases r; rfl
  | bl b => cases r; rfl
  | int i => obtain ⟨t, rfl⟩ := r; rfl
  | str z => obtain ⟨t, rfl⟩ := r; rfl
  | _ => exact absurd (show false = true from f) Bool.false_ne_true
theorem any_eqU {x : V} : ∀ {xs : List V} {us : List Value}, Vals xs us → xs.all flatV = true → us.any (eqU x) = xs.any fun y => eqV y x
  | _, _, .nil, _ => rfl
  | y :: xs, u :: us, .cons r t, f => by
    rw [List.all_cons, Bool.and_eq_true] at f
    rw [List.any_cons, List.any_cons, eqU_of r f.1, any_eqU t f.2]
theorem mem_eqAt {A : Around} {s : Shared} {x : V} {v : Value} (rx : RelV x v) (fx : flatV x = true) : ∀ {xs : List V} {us : List Value}, Vals xs us → xs.all flatV = true → ∀ u ∈ us, SeqAt.EqAt A s u v (eqU x u)
  | _, _, .nil, _ => fun u hu => by cases hu
  | y :: xs, u :: us, .cons r t, f => fun u' hu => by
    rw [List.all_cons, Bool.and_eq_true] at f
    rcases List.mem_cons.mp hu with rfl | hu
    · rw [eqU_of r f.1]; exact eqAt_V r rx f.1 fx
    · exact mem_eqAt rx fx t f.2 u' hu
def inV (x : V) (xs : List V) : Bool := xs.any fun y => eqV y x
def rIn (K : PySem.W.Frag) (neg : Bool) : R2 := fun x y H Q => ∃ p xs, y = .ref p ∧ (SqL K H p xs ∨ SqT K H p xs) ∧ flatV x = true ∧ xs.all flatV = true ∧ Q (.bl (if neg then !inV x xs else inV x xs)) H
theorem op_in_seq : OpR X (compareOp .In) (rIn X.K false) := by
  intro pins s σ H x y v u Q I rx ry h
  obtain ⟨p, xs, rfl, hq, fx, fs, q⟩ := h
  cases ry
  rcases hq with hq | hq
  · obtain ⟨its, r, pl, hz⟩ := I.list hq
    refine SeqAt.in_listAt (eqU x) pl.isList (fun w hw => mem_eqAt rx fx r fs w (by simpa using hw)) ⟨.bl _, H, I, rfl, ?_⟩
    rw [show its.toArray.any (eqU x) = its.any (eqU x) by simp, any_eqU r fs]
    exact q
  · obtain ⟨its, r, pl, hz⟩ := I.tuple hq
    refine SeqAt.in_tupleAt (eqU x) pl (fun w hw => mem_eqAt rx fx r fs w (by simpa using hw)) ⟨.bl _, H, I, rfl, ?_⟩
    rw [show its.toArray.any (eqU x) = its.any (eqU x) by simp, any_eqU r fs]
    exact q
theorem call_len_seq : CallR X (.builtin "len") (fun xs H Q => ∃ p ys, xs = [.ref p] ∧ (SqL X.K H p ys ∨ SqT X.K H p ys) ∧ Q (.int ys.length) H) := by
  intro pins s σ H xs us Q I r h
  obtain ⟨p, ys, rfl, hq, q⟩ := h
  obtain ⟨u, rfl, rx⟩ := vals1 r
  cases rx
  have hn := line63
  rcases hq with hq | hq
  · obtain ⟨its, r', pl, hz⟩ := I.list hq
    have hlen := r'.length
    exact Calls.call_len_list pl.isList (by simp only [List.size_toArray] <;> omega) ⟨.int ys.length, H, I.tok _, ⟨s.toks + 1, by rw [List.size_toArray, hlen]⟩, q⟩
  · obtain ⟨its, r', pl, hz⟩ := I.tuple hq
    have hlen := r'.length
    exact len_tuple pl (by simp only [List.size_toArray] <;> omega) ⟨.int ys.length, H, I.tok _, ⟨s.toks + 1, by rw [List.size_toArray, hlen]⟩, q⟩
theorem call_tuple_of : CallR X (.type "tuple") (fun xs H Q => ∃ p ys, xs = [.ref p] ∧ ((SqL X.K H p ys ∧ ∀ l, H l = none → Q (.ref l) (upd H l (.tup ys))) ∨ (SqT X.K H p ys ∧ Q (.ref p) H))) := by
  intro pins s σ H xs us Q I r h
  obtain ⟨p, ys, rfl, h⟩ := h
  obtain ⟨u, rfl, rx⟩ := vals1 r
  cases rx
  rcases h with ⟨hq, q⟩ | ⟨hq, q⟩
  · obtain ⟨its, r', pl, hz⟩ := I.list hq
    have hlen := r'.length
    refine call_tuple_list pl.isList (fun h' kp => ?_) (by simp only [List.size_toArray] <;> omega)
    have I1 : Inv X pins σ H { s with heap := h' } := I.kept (t' := s.toks) kp
    have I2 : Inv X pins σ (upd H h'.objs.size (.tup ys)) { s with heap := h'.push { cls := .type "tuple", data := .seq its.toArray } } :=
      I1.laid (t' := s.toks) (fun b o e => Heap.get?_push_of_some _ e) (Nat.le_refl _) (show ObjOk X.prog X.w _ _ _ (.tup ys) from ⟨hz, its, r', IsTup.new _ _⟩)
    exact ⟨.ref h'.objs.size, _, I2, rfl, q _ (I1.hok.fresh (Nat.le_refl _))⟩
  · obtain ⟨its, r', pl, hz⟩ := I.tuple hq
    exact call_tuple_same pl ⟨.ref p, H, I, rfl, q⟩
def tyV (K : PySem.W.Frag) (T : String) (x : V) (H : Hp) : Prop := match x with
  | .str _ => T = "str"
  | .int _ => T = "int"
  | .ref p => (T = "list" ∧ ∃ xs, SqL K H p xs) ∨ (T = "tuple" ∧ ∃ o, K.lookup p = some o ∧ o.cls = .type "tuple" ∧ o.dict = none) ∨
      (T = "dict" ∧ ((∃ kvs, H p = some (.dK kvs)) ∨ ∃ kvs, H p = some (.dT kvs))) ∨ (T = "set" ∧ ∃ S n, H p = some (.set S n))
  | _ => False
theorem tyV_is {pins : List (Addr × Obj)} {σ : St} {H : Hp} {s : Shared} {T : String} {x : V} {v : Value} (I : Inv X pins σ H s) (r : RelV x v) (ty : tyV X.K T x H) :
    s.TypeIs v T ∧ ∀ a, v = .ref a → ∃ ob, s.heap.get? a = some ob ∧ ob.dict = none := by
  cases x with
  | str z =>
    obtain ⟨t, rfl⟩ := r
    cases (show T = "str" from ty)
    exact ⟨typeIs_str s z t, fun _ e => nomatch e⟩
  | int i =>
    obtain ⟨t, rfl⟩ := r
    cases (show T = "int" from ty)
    exact ⟨typeIs_int s i t, fun _ e => nomatch e⟩
  | ref p =>
    cases r
    rcases ty with ⟨rfl, xs, hq⟩ | ⟨rfl, o, hk, hc, hd⟩ | ⟨rfl, hk⟩ | ⟨rfl, S, n, hk⟩
    · obtain ⟨its, _, pl, _⟩ := I.list hq
      refine ⟨pl.isList.typeIs, fun a e => ?_⟩
      cases e
      obtain ⟨o, n, e, c, hd, _⟩ := pl
      exact ⟨o, e, hd⟩
    · refine ⟨⟨o, I.kIn p o hk, hc⟩, fun a e => ?_⟩
      cases e
      exact ⟨o, I.kIn _ o hk, hd⟩
    · have z : ∃ o, s.heap.get? p = some o ∧ o.ExactDict := by
        rcases hk with ⟨kvs, hk⟩ | ⟨kvs, hk⟩
        · obtain ⟨_, _, _, _, o, _, _, e, ex, _⟩ := I.hok p _ hk
          exact ⟨o, e, ex⟩
        · obtain ⟨_, _, _, _, o, _, _, e, ex, _⟩ := I.hok p _ hk
          exact ⟨o, e, ex⟩
      obtain ⟨o, e, ex⟩ := z
      refine ⟨⟨o, e, ex.1⟩, fun a e2 => ?_⟩
      cases e2
      exact ⟨o, e, ex.2.1⟩
    · obtain ⟨o, _, _, _, e, ex, _⟩ := I.hok p _ hk
      refine ⟨⟨o, e, ex.1⟩, fun a e2 => ?_⟩
      cases e2
      exact ⟨o, e, ex.2.1⟩
  | _ => exact False.elim ty
def tBM (K : PySem.W.Frag) (T : String) (r : V → List V → Hp → VK → Prop) (to : TE) (t : TA) : TE := fun σ H Q => to σ H fun x H1 => tyV K T x H1 ∧ t σ H1 fun xs H2 => r x xs H2 Q
variable {o e : Expr} {es : List Expr} {to : TE} {t : TA} {name : Str} {apos cpos : Pos} {T id : String} {r : V → List V → Hp → VK → Prop}
theorem pe_bm (pa : PlainAttrs T) (slot : Slot T name id) (hty : typeOf (.builtin id) = pure (.type "method_descriptor")) (hm : MtR X id r) (ho : PE X o to) (ha : PA X (e :: es) t)
    (hbase : attributeBase o name X.env (eval o X.env) = eval o X.env := by rfl)
    (hfew : ((backTo cpos (starEach (e :: es) X.env)).all (fun x => !x.1) && (backToKw cpos (keywordEach [] X.env)).all (fun x => x.1.isSome)
      && decide ((e :: es).length + ([] : List Keyword).length + (if ([] : List Keyword).isEmpty then 0 else 1) < 30)) = true := by rfl)
    (hline : (apos.endLine == cpos.line) = true := by rfl) (hs : starEach (e :: es) X.env = (false, eval e X.env) :: starEach es X.env := by rfl) (hplain : (backTo cpos (starEach es X.env)).any (·.1) = false := by rfl) :
    PE X (.Call (.Attribute o name apos) (e :: es) [] cpos) (tBM X.K T r to t) := by
  intro pins s σ H Q I h
  refine wpAny_Call_method_late hbase hfew hline rfl (thn (ho pins s σ H _ I h) fun v s1 ⟨x, H1, I1, r1, ty, q1⟩ => ?_)
  obtain ⟨h1, h2⟩ := tyV_is I1 r1 ty
  refine ⟨T, id, pa, slot, hty, h1, h2, ?_⟩
  have hA := ha cpos pins s1 σ H1 _ I1 q1
  rw [hs] at hA ⊢
  refine Calls.callWith_builtin (by show (false || (backTo cpos (starEach es X.env)).any (·.1)) = false; rw [hplain] <;> rfl) (Calls.evalArgs_plain ?_)
  exact thn hA fun us s2 ⟨vs, H2, I2, r2, q2⟩ => hm pins s2 σ H2 x vs v us Q I2 r1 r2 q2
end
end L2
namespace L2
open PySem PySem.Spec PyProof.Rows
def MtM (X : Cx) (id : String) (r : V → List V → Hp → VK → Prop) : Prop :=
  ∀ (pins : List (Addr × Obj)) (s : Shared) (σ : St) (H : Hp) (x : V) (xs : List V) (v : Value) (us : List Value) (Q : VK), Inv X pins σ H s → RelV x v → Vals xs us → r x xs H Q →
    wpAny (model X.prog X.w) X.A (call (.builtin id) (v :: us)) (EP X pins σ Q) X.xe s
theorem Vals.one : ∀ {x : V} {us : List Value}, Vals [x] us → ∃ u, us = [u] ∧ RelV x u
  | _, _, .cons r .nil => ⟨_, rfl, r⟩
theorem Vals.zero : ∀ {us : List Value}, Vals [] us → us = []
  | _, .nil => rfl
theorem Vals.rep {xs : List V} {us : List Value} (h : Vals xs us) : ∀ k : Nat, Vals (List.replicate k xs).flatten (List.replicate k us).flatten
  | 0 => .nil
  | k + 1 => by
    rw [List.replicate_succ, List.replicate_succ, List.flatten_cons, List.flatten_cons]
    exact Vals.append h (Vals.rep h k)
theorem foldl_rep (its : List Value) : ∀ (k : Nat) (acc : List Value),
    List.foldl (fun x1 x2 => x1 ++ x2) acc.toArray (List.replicate k its.toArray) = (acc ++ (List.replicate k its).flatten).toArray
  | 0, acc => by simp
  | k + 1, acc => by
    have e : acc.toArray ++ its.toArray = (acc ++ its).toArray := by simp
    have e2 : (acc ++ its) ++ (List.replicate k its).flatten = acc ++ (List.replicate (k + 1) its).flatten := by
      rw [List.replicate_succ, List.flatten_cons, List.append_assoc]
    rw [← e2, ← foldl_rep its k (acc ++ its), ← e, List.replicate_succ, List.foldl_cons]
section
variable {X : Cx} {pins : List (Addr × Obj)} {σ : St} {H : Hp} {s : Shared} {l b : Addr} {xs ys zs : List V}
theorem Inv.lset {its its' : List Value} {n : Nat} {f : Array Value → Array Value} {t' : Nat} (I : Inv X pins σ H s) (hH : H l = some (.lst xs))
    (e : s.heap.get? l = some { cls := .type "list", data := .seq its.toArray n }) (hf : f its.toArray = its'.toArray) (hv : Vals ys its') (hz : ys.length ≤ sizeLine) :
    Inv X pins σ (upd H l (.lst ys)) { s with heap := s.heap.update l (Obj.mapSeq f), toks := t' } := by
  have q := PySem.IsL.update e f
  rw [hf] at q
  refine I.write (x := l) (e := l) (by rw [hH]; exact trivial) (.inl rfl) (fun b' u hb hu => (Heap.get?_update_other s.heap (Obj.mapSeq f) (Ne.symm hb)).trans hu) ⟨_, q⟩ ?_
  exact ⟨hz, its', _, hv, q⟩
theorem Inv.lnew {its : List Value} {t' : Nat} (I : Inv X pins σ H s) (hv : Vals ys its) (hz : ys.length ≤ sizeLine) :
    Inv X pins σ (upd H s.heap.objs.size (.lst ys)) { s with heap := s.heap.push { cls := .type "list", data := .seq its.toArray }, toks := t' } :=
  I.laid (fun _ _ q => Heap.get?_push_of_some _ q) (Nat.le_refl _) ⟨hz, its, 0, hv, Heap.get?_push_size _ rfl⟩
theorem Inv.fresh (I : Inv X pins σ H s) : H s.heap.objs.size = none := I.hok.fresh (Nat.le_refl _)
theorem Inv.lstM (I : Inv X pins σ H s) (hH : H l = some (.lst xs)) : xs.length ≤ sizeLine ∧ ∃ (its : List Value) (n : Nat), Vals xs its ∧ xs.length = its.length ∧ s.heap.get? l = some { cls := .type "list", data := .seq its.toArray n } := by
  obtain ⟨z, its, n, r, e⟩ := I.hok l _ hH
  exact ⟨z, its, n, r, r.length, e⟩
theorem notLongL {n : Nat} (h : n ≤ sizeLine) : Builtin.List.listTooLong n = false := by
  unfold Builtin.List.listTooLong
  exact decide_eq_false (by omega)
end
section
variable {X : Cx}
def rAppend : V → List V → Hp → VK → Prop := fun x vs H Q => ∃ l xs y, x = .ref l ∧ vs = [y] ∧ H l = some (.lst xs) ∧ xs.length < sizeLine ∧ Q .non (upd H l (.lst (xs ++ [y])))
theorem mt_append : MtM X "list.append" rAppend := by
  intro pins s σ H x vs v us Q I rx rv h
  obtain ⟨l, xs, y, rfl, rfl, hH, hz, q⟩ := h
  cases rx
  obtain ⟨u, rfl, ru⟩ := rv.one
  obtain ⟨z, its, n, r, hl, e⟩ := I.lstM hH
  refine call_meets F.slot_list_append ⟨_, e, rfl⟩ F.entry_list_append (F.args_list_append_2 _ _) (PySem.list_append l its.toArray n u (by rw [List.size_toArray]; omega)) ⟨e, ?_⟩
  refine ⟨.non, _, I.lset (its' := its ++ [u]) hH e (by simp) (r.append (.cons ru .nil)) ?_, rfl, q⟩
  rw [List.length_append, List.length_singleton]
  omega
def rExtend : V → List V → Hp → VK → Prop := fun x vs H Q => ∃ l b xs zs, x = .ref l ∧ vs = [.ref b] ∧ H l = some (.lst xs) ∧ H b = some (.lst zs) ∧ xs.length + zs.length ≤ sizeLine ∧ Q .non (upd H l (.lst (xs ++ zs)))
theorem mt_extend : MtM X "list.extend" rExtend := by
  intro pins s σ H x vs v us Q I rx rv h
  obtain ⟨l, b, xs, zs, rfl, rfl, hH, hB, hz, q⟩ := h
  cases rx
  obtain ⟨u, rfl, ru⟩ := rv.one
  cases ru
  obtain ⟨z, its, n, r, hl, e⟩ := I.lstM hH
  obtain ⟨z2, its2, n2, r2, hl2, e2⟩ := I.lstM hB
  have hsz : its.toArray.size + its2.toArray.size ≤ sizeLine := by rw [List.size_toArray, List.size_toArray]; omega
  have hlong : ¬ (!its.toArray.isEmpty && Builtin.List.listTooLong (its.toArray.size + its2.toArray.size)) = true := by
    rw [notLongL hsz, Bool.and_false]
    exact Bool.false_ne_true
  refine call_meets F.slot_list_extend ⟨_, e, rfl⟩ F.entry_list_extend (F.args_list_extend_2 _ _)
    (AutoSeq1.list_extend_list_list_0 l its.toArray n b its2.toArray n2 hlong (by rw [List.size_toArray]; omega) (by omega)) ⟨e, e2, ?_⟩
  refine ⟨.non, _, I.lset (its' := its ++ its2) hH e (by simp) (r.append r2) ?_, rfl, q⟩
  rw [List.length_append]
  omega
def rCat : R2 := fun x y H Q => ∃ l b xs zs, x = .ref l ∧ y = .ref b ∧ H l = some (.lst xs) ∧ H b = some (.lst zs) ∧ xs.length + zs.length ≤ sizeLine ∧ ∀ p, H p = none → Q (.ref p) (upd H p (.lst (xs ++ zs)))
theorem op_cat : OpR X (binaryOp .Add) rCat := by
  intro pins s σ H x y v u Q I rx ry h
  obtain ⟨l, b, xs, zs, rfl, rfl, hH, hB, hz, q⟩ := h
  cases rx
  cases ry
  obtain ⟨z, its, n, r, hl, e⟩ := I.lstM hH
  obtain ⟨z2, its2, n2, r2, hl2, e2⟩ := I.lstM hB
  refine PySem.P.add_list e e2 ?_ (by rw [List.size_toArray, List.size_toArray]; omega)
  have ea : its.toArray ++ its2.toArray = (its ++ its2).toArray := by simp
  rw [ea]
  exact ⟨.ref _, _, I.lnew (t' := s.toks) (r.append r2) (by rw [List.length_append]; omega), rfl, q _ I.fresh⟩
theorem len_rep {α : Type} (xs : List α) (k : Nat) : (List.replicate k xs).flatten.length = k * xs.length := by
  induction k with
  | zero => simp
  | succ k ih => rw [List.replicate_succ, List.flatten_cons, List.length_append, ih, Nat.succ_mul, Nat.add_comm]
end
end L2
namespace Att
open PySem PySem.W PySem.Calls PyProof.Rows
theorem ints_of_wellAll {P : Params} {h : Heap} : ∀ (ns : List Int) (vs : List Value), WellAll P h vs (ns.map WData.int) → IntsAre vs ns := by
  intro ns
  induction ns with
  | nil =>
    intro vs w
    rw [List.map_nil] at w
    cases w
    exact .nil
  | cons n ns ih =>
    intro vs w
    rw [List.map_cons] at w
    cases w with
    | cons a b =>
      cases a
      exact .cons _ _ (ih _ b)
theorem script_of {l : OpenLaw} {n : Nat} (hn : l.most = some n) {P : Params} {h : Heap} {args : List WData} {vals : List Value}
    (hpre : l.row.toRowW.claim.pre args = true) (hwl : WellAll P h vals args) :
    ∃ a vs ns, vals = [Value.ref a] ∧ args = [WData.list (ns.map WData.int)] ∧ h.get? a = some { cls := .type "list", data := .seq vs.toArray } ∧ IntsAre vs ns ∧ ns.length ≤ n := by
  have hsh : WShape.hasAll [] args [.list .int] = true := (pre_splitW hpre).1
  have hc : l.pre.holds [] { args := args } = true := (pre_splitW hpre).2
  obtain ⟨d, r, rfl, h1, h2⟩ := hasAllW_cons hsh
  obtain rfl := hasAllW_nil h2
  obtain ⟨xs, rfl, h3⟩ := hasW_list h1
  obtain ⟨ns, rfl⟩ := items_int h3
  have hlen : ns.length ≤ n := by
    unfold OpenLaw.pre at hc
    have h4 : (WTm.not (.lt (.lit (.int (n : Int))) (.len (.arg 0)))).holds [] { args := [.list (ns.map .int)] } = true := by
      have h4 := (holds_andW hc).1
      rw [hn] at h4
      exact h4
    have h5 := condW_of h4 (w_not (w_lt w_lit (w_len_list (w_arg rfl))))
    rw [List.length_map] at h5
    refine Nat.le_of_not_lt fun q => ?_
    have q' : (n : Int) < ((ns.length : Nat) : Int) := by omega
    first
      | (rw [decide_eq_true q'] at h5; exact absurd h5 (by decide))
      | (simp at h5; omega)
  cases hwl with
  | cons w1 w2 =>
    cases w2
    cases w1 with
    | list ho hall => exact ⟨_, _, ns, rfl, rfl, ho, ints_of_wellAll ns _ hall, hlen⟩
theorem post_true (l : OpenLaw) (args : List WData) : l.row.toRowW.claim.post args (.bool true) args = true :=
  postW_of (r := l.row.toRowW) (X := (true == true))
    (show WShape.has [] (.bool true) .bool = true by first | rfl | decide | simp [WShape.has, WShape.arms, WShape.armsAll])
    (show (WTm.eq .res (.lit (.bool true))).value [] { args := args, res := some (.bool true), after := args } = some (.bool (true == true)) from w_eq_bool (w_res rfl) w_lit) rfl
theorem attach_call {l : OpenLaw} {n : Nat} {q : Program} {loose : List Str} {XP : (Str → Option Value) → Heap → Prop} {YP : World → Heap → Prop} {d : DefRec}
    (hn : l.most = some n) (hdf : d.params.defaults = [])
    (call : ∀ (w : World) (s₀ s₁ : Shared) (mg mb : Str → Option Value) (fa : Addr) (o : Obj) (pm cd doc : Value) (a : Addr) (vs : List Value) (ns : List Int),
      Ground q loose [] XP w s₀ mg mb s₁.heap → YP w s₁.heap →
      s₁.heap.get? fa = some o → o.data = .func (docDef d.name d.params d.body d.scope pm cd doc) → s₁.heap.CodeRec cd d.name → mg d.name = some (.ref fa) →
      s₁.heap.get? a = some { cls := .type "list", data := .seq vs.toArray } → IntsAre vs ns → ns.length ≤ n → s₁.gens = #[] →
      codeAny (model l.prog w) callerA (.call (.ref fa) ⟨[.ref a], []⟩) (fun r s' => r = .ok (.ret (.bool true)) ∧ OldK s₁.heap s'.heap ∧ s'.os = s₁.os ∧ AllBare s'.gens) s₁) :
    WalkO q loose XP YP l.row.toRowW d [] (fun f vs => PySem.call f vs) := by
  intro w s₀ s₁ mg mb G Y fa o pm cd doc dV kV ho hd hcd hD hmg hg args vals as hpre hlay hrd hwl hlo
  obtain rfl : dV = .none := Dflts.none hD hdf
  obtain rfl : kV = .none := Dflts.noKw hD
  obtain ⟨a, vs, ns, rfl, rfl, hobj, hints, hlen⟩ := script_of hn hpre hwl
  refine enter_call (codeAny_mono (call w s₀ s₁ mg mb fa o pm cd doc a vs ns G Y ho (fd_plain hd) hcd hmg hobj hints hlen hg) fun r s' hq => ?_)
  obtain ⟨rfl, h2, h3, h4⟩ := hq
  exact ⟨.inl ⟨.bool true, .bool true, [], rfl, fun _ => rfl, .bool true, post_true l _, fun _ => ⟨List.Pairwise.nil, fun _ hm => (nomatch hm)⟩⟩, h2, h3, h4⟩
end Att
namespace L2
open PySem PySem.Spec PyProof.Rows
theorem vals_ints : ∀ {vs : List Value} {ns : List Int}, IntsAre vs ns → Vals (ns.map V.int) vs
  | _, _, .nil => .nil
  | _, _, .cons n t h => .cons ⟨t, rfl⟩ (vals_ints h)
end L2
namespace L2
open PySem PySem.Spec PyProof.Rows
def inClass (s : Stmt) (j : Nat) : Stmt := match s with
  | .ClassDef _ _ _ body _ _ _ _ _ _ _ => body.getD j (.Pass ⟨0, 0, 0, 0⟩)
  | _ => .Pass ⟨0, 0, 0, 0⟩
def defArgs (s : Stmt) : Arguments := match s with
  | .FunctionDef _ a _ _ _ _ _ _ _ _ => a
  | _ => { posonlyargs := [], args := [], vararg := none, kwonlyargs := [], kw_defaults := [], kwarg := none, defaults := [] }
def defBody (s : Stmt) : List Stmt := match s with
  | .FunctionDef _ _ b _ _ _ _ _ _ _ => b
  | _ => []
def defScope (s : Stmt) : Scope := match s with
  | .FunctionDef _ _ _ _ _ _ sc _ _ _ => sc
  | _ => { kind := .function, names := [], isGenerator := false, isCoroutine := false }
abbrev CX0 : CXT := fun _ _ _ _ _ _ => False
abbrev E0 : XK := fun _ _ _ => False
theorem pass0 {X : Cx} : Passes CX0 X E0 := fun _ _ _ _ _ _ _ h => h.elim
structure Fun (K : PySem.W.Frag) (x qual : Str) (st : Stmt) (f : Addr) (fd : FuncData) : Prop where
  ex : ∃ (oc : Value) (od : Option Addr) (kV doc pm : Value) (an : Option Addr) (cdv ct : Value) (osl : Array (Option Value)),
    fd = PySem.W.fnOf x qual (defArgs st) (defBody st) (defScope st) .none kV doc pm an cdv ct ∧ K.lookup f = some ⟨oc, od, .func fd, osl⟩ ∧ PySem.W.codeIn K cdv qual = true
  kp : PySem.W.keepIn K (.ref f) = true
section
variable {P : Program} {w : World} {K : PySem.W.Frag} {mg : Str → Option Value} {base : Heap}
theorem Fun.ok {x qual : Str} {st : Stmt} {f : Addr} {fd : FuncData} {N ps : List Str} {k : Nat} {sp : Sp} (F : Fun K x qual st f fd) (S : FnScope N ps (defScope st)) (len : ∀ vs H Q E, sp vs H Q E → vs.length = ps.length)
    (hbody : ∀ (cdv : Value) (A : Around) (outer : List Env) (s : Shared) (H : Hp) (vs : List V) (Q : VK) (E : XK), Room k (A.deeper (envOfC qual (defScope st) s.heap.objs.size f cdv)) → sp vs H Q E →
      ∃ t, PSs (cxOf CX0 P w K mg base N qual (defScope st) f cdv A outer s H E).nox (defBody st) t ∧ t { nx := fun _ H' => Q .non H', rt := Q } (start N vs) H) : FnOk P w K mg base CX0 (k + 1) f fd ps sp := by
  obtain ⟨oc, od, kV, doc, pm, an, cdv, ct, osl, rfl, lk, hcd⟩ := F.ex
  refine fn_of lk hcd S len fun A outer s H vs Q E hr hsp => ?_
  obtain ⟨t, h, q⟩ := hbody cdv A outer s H vs Q E hr hsp
  exact ⟨t, h.nox, q⟩
theorem Fun.binds {x qual : Str} {st : Stmt} {f : Addr} {fd : FuncData} {ps : List Str} (F : Fun K x qual st f fd)
    (h : ∀ (kV doc pm : Value) (an : Option Addr) (cdv ct : Value) (us : List Value), us.length = ps.length → bindArgs (PySem.W.fnOf x qual (defArgs st) (defBody st) (defScope st) .none kV doc pm an cdv ct) ⟨us, []⟩ = pure (ps.zip us)) : Binds K fd ps [] := by
  obtain ⟨oc, od, kV, doc, pm, an, cdv, ct, osl, rfl, lk, hcd⟩ := F.ex
  exact .all (h kV doc pm an cdv ct)
theorem fun_mk {x qual : Str} {st : Stmt} {f : Addr} {oc : Value} {od an : Option Addr} {osl : Array (Option Value)} {kV doc pm cdv ct : Value} (l : K.lookup f = some ⟨oc, od, .func (PySem.W.fnOf x qual (defArgs st) (defBody st) (defScope st) .none kV doc pm an cdv ct), osl⟩)
    (c : PySem.W.codeIn K cdv qual = true) (k : PySem.W.keepIn K (.ref f) = true) : Fun K x qual st f (PySem.W.fnOf x qual (defArgs st) (defBody st) (defScope st) .none kV doc pm an cdv ct) := ⟨⟨oc, od, kV, doc, pm, an, cdv, ct, osl, rfl, l, c⟩, k⟩
end
theorem hu_of {A : Around} {k : Nat} (hr : Room k A) : A.units + 1 < cLine := Nat.lt_of_le_of_lt (Nat.add_le_add_left (by decide : 1 ≤ 64) _) hr.units
section
variable {X : Cx}
theorem pv (i : Nat) {x : Str} {pos : Pos} (hN : X.N[i]? = some x := by rfl) (hv : Vis X.env.scope x := by first | exact Or.inl rfl | exact Or.inr (Or.inl rfl) | exact Or.inr (Or.inr rfl)) (hd : (x == ("__debug__" : Str)) = false := by decide)
    (hcd : (x == ("__classdict__" : Str)) = false := by decide) : PE X (.Name x pos) (tVar i) := pe_var hN hv hd hcd
end
theorem iteF {A B : Prop} (h : B) : if false = true then A else B := by
  rw [if_neg Bool.false_ne_true]
  exact h
theorem iteT {A B : Prop} (h : A) : if true = true then A else B := by
  rw [if_pos rfl]
  exact h
theorem ite2 {c A B : Prop} [Decidable c] (h1 : c → A) (h2 : ¬ c → B) : if c then A else B := by
  by_cases h : c
  · rw [if_pos h]
    exact h1 h
  · rw [if_neg h]
    exact h2 h
def Same (H H' : Hp) : Prop := ∀ b o, H b = some o → H' b = some o
theorem Same.refl (H : Hp) : Same H H := fun _ _ h => h
theorem Same.trans {H H1 H2 : Hp} (a : Same H H1) (b : Same H1 H2) : Same H H2 := fun c o h => b c o (a c o h)
theorem Same.free {H H' : Hp} (e : Same H H') {l : Addr} (h : H' l = Option.none) : H l = Option.none := by
  cases q : H l with
  | none => rfl
  | some o =>
    rw [e l o q] at h
    cases h
theorem Same.seq {K : PySem.W.Frag} {H H' : Hp} {a : Addr} {xs : List V} (e : Same H H') (h : SqL K H a xs) : SqL K H' a xs := by
  rcases h with (h | ⟨o, h⟩) | h
  · exact .inl (.inl (e _ _ h))
  · exact .inl (.inr ⟨o, e _ _ h⟩)
  · exact .inr h
end L2
set_option Elab.async false
set_option linter.all false
set_option maxRecDepth 100000
namespace L2
open PySem PySem.Spec PyProof.Rows
def cxBlk (X : Cx) (scope : Scope) (cl : List (Str × Addr)) (C : Addr) (N : List Str) (fp : List Addr) (s : Shared) (H : Hp) : Cx :=
  { X with N := N, s₀ := s, H₀ := H, env := compEnvC scope cl C X.env, outer := X.stack, ex := fp, fn := fun _ => false, pn := [], xe := fun _ _ => False }
def PTs (X : Cx) (ifs : List Expr) (t : TT) : Prop :=
  ∀ (pins : List (Addr × Obj)) (s : Shared) (σ : St) (H : Hp) (Q : Bool → Hp → Prop), Inv X pins σ H s → t σ H Q →
    wpAny (model X.prog X.w) X.A (forIn ifs true fun c r => if r = true then do let ok ← isTrue c X.env (eval c X.env); pure (ForInStep.yield ok) else pure (ForInStep.yield r)) (TP X pins σ Q) X.xe s
def tTrue : TT := fun _ H Q => Q true H
theorem pts_nil {X : Cx} : PTs X [] tTrue := fun _ _ _ H _ I h => wpAny_tests_nil ⟨H, I, h⟩
theorem pts_one {X : Cx} {c : Expr} {t : TT} (h : PT X c t) : PTs X [c] t := fun pins s σ H Q I q => wpAny_tests_one (h pins s σ H Q I q)
theorem codeAny_compLoop_go {prog : Program} {w : World} {A : Around} {R : Result → Shared → Prop} {s : Shared} {elt target iter : Expr} {ifs : List Expr} {scope : Scope} {pos : Pos} {it acc : Value} {env : Env} (I : Nat → Shared → Prop)
    (turn : ∀ n s, I n s → wpAny (model prog w) A (pyNext it) (fun r s₁ => match r with
      | none => R (.ok .next) s₁
      | some v => wpAny (model prog w) A (letOwnedTupleGo target it v) (fun _ s₁' => wpAny (model prog w) A (assign target env v) (fun _ s₂ =>
          wpAny (model prog w) A (forIn ifs true fun c r => if r = true then do let ok ← isTrue c env (eval c env); pure (ForInStep.yield ok) else pure (ForInStep.yield r)) (fun ok s₃ =>
            if ok = true then wpAny (model prog w) A (eval elt env) (fun x s₄ =>
              wpAny (model prog w) A (call (.builtin "list.append") [acc, x]) (fun _ s₅ => ∃ m, m < n ∧ I m s₅) (fun _ _ => False) s₄) (fun _ _ => False) s₃
            else ∃ m, m < n ∧ I m s₃) (fun _ _ => False) s₂) (fun _ _ => False) s₁') (fun _ _ => False) s₁) (fun _ _ => False) s)
    (n : Nat) (h : I n s) :
    codeAny (model prog w) A (.compLoop (.ListComp elt [⟨target, iter, ifs, 0⟩] scope pos) 0 it acc env) R s := by
  have lift : ∀ {α : Type} {t : Sem α} {Q : α → Shared → Prop} {E : Value → Shared → Prop} {s : Shared}, wpAny (model prog w) A t Q (fun _ _ => False) s → wpAny (model prog w) A t Q E s :=
    fun h => wpAny_mono h (fun _ _ q => q) fun _ _ q => q.elim
  refine codeAny_loop rfl I (fun n s hI => ?_) n h
  show wpAny _ A ((compTurn (.ListComp elt [⟨target, iter, ifs, 0⟩] scope pos) 0 it acc env).onRaise (fun x => do noteFrame x env; theTreesLotGoes x)) _ _ s
  refine wpAny_noted ?_
  rw [compTurn_list]
  refine wpAny_bind (wpAny_standAt (wpAny_bind (wpAny_mono (lift (turn n s hI)) (fun r s₁ h₁ => ?_) fun _ _ h' => h')))
  cases r with
  | none => exact wpAny_pure h₁
  | some v =>
    refine wpAny_bind (wpAny_mono (lift h₁) (fun _ s₁' h₁' => ?_) fun _ _ h' => h')
    refine wpAny_bind (wpAny_mono (lift h₁') (fun _ s₂ h₂ => wpAny_bind (wpAny_mono (lift h₂) (fun ok s₃ h₃ => ?_) fun _ _ h' => h')) fun _ _ h' => h')
    cases ok with
    | false => exact wpAny_pure ⟨rfl, h₃⟩
    | true =>
      exact wpAny_bind (wpAny_bind (wpAny_mono (lift h₃) (fun x s₄ h₄ => wpAny_bind (wpAny_mono (lift h₄) (fun _ s₅ h₅ => wpAny_pure (wpAny_pure ⟨rfl, h₅⟩)) fun _ _ h' => h')) fun _ _ h' => h'))
def BsOk (XN : List Str) (xn sn : List (Str × NameKind)) : List Str → List (Option Nat) → Prop
  | [], [] => True
  | _ :: N, none :: bs => BsOk XN xn sn N bs
  | x :: N, some j :: bs => (XN[j]? = some x ∧ xn.lookup x = some .cell ∧ sn.lookup x = some .free) ∧ BsOk XN xn sn N bs
  | _, _ => False
def bst (bs : List (Option Nat)) (σ : St) : St := bs.map fun o => o.bind fun j => (σ[j]?).join
theorem BsOk.len {XN : List Str} {xn sn : List (Str × NameKind)} : ∀ {N : List Str} {bs : List (Option Nat)}, BsOk XN xn sn N bs → bs.length = N.length
  | [], [], _ => rfl
  | _ :: N, none :: bs, h => congrArg (· + 1) (BsOk.len (N := N) (bs := bs) h)
  | _ :: N, some _ :: bs, h => congrArg (· + 1) (BsOk.len (N := N) (bs := bs) h.2)
theorem BsOk.get {XN : List Str} {xn sn : List (Str × NameKind)} : ∀ {N : List Str} {bs : List (Option Nat)} {i j : Nat}, BsOk XN xn sn N bs → bs[i]? = some (some j) → ∃ x, N[i]? = some x ∧ XN[j]? = some x ∧ xn.lookup x = some .cell ∧ sn.lookup x = some .free
  | [], [], _, _, _, e => by simp at e
  | _ :: N, none :: bs, 0, _, _, e => by simp at e
  | _ :: N, none :: bs, i + 1, j, h, e => by
    obtain ⟨x, h1, h2⟩ := BsOk.get (N := N) (bs := bs) (i := i) (j := j) h (by simpa using e)
    exact ⟨x, by simpa using h1, h2⟩
  | x :: N, some k :: bs, 0, j, h, e => by
    have : k = j := by simpa using e
    subst this
    exact ⟨x, rfl, h.1⟩
  | _ :: N, some k :: bs, i + 1, j, h, e => by
    obtain ⟨x, h1, h2⟩ := BsOk.get (N := N) (bs := bs) (i := i) (j := j) h.2 (by simpa using e)
    exact ⟨x, by simpa using h1, h2⟩
theorem relabel_free {env : Env} : ∀ {names : List (Str × NameKind)} {x : Str}, names.lookup x = some .free →
    ((names.map fun (n, k) => if (k == NameKind.free && env.scope.kind == .function && env.kindOf n == some .cell) then (n, NameKind.cell) else (n, k)).lookup x = some .cell ∨
    (names.map fun (n, k) => if (k == NameKind.free && env.scope.kind == .function && env.kindOf n == some .cell) then (n, NameKind.cell) else (n, k)).lookup x = some .free)
  | [], _, h => by simp at h
  | (n, k) :: r, x, h => by
    have ih := @relabel_free env r x
    simp only [List.map_cons]
    cases hx : x == n with
    | true =>
      simp only [List.lookup_cons, hx] at h
      cases h
      by_cases hc : (NameKind.free == NameKind.free && env.scope.kind == .function && env.kindOf n == some .cell) = true
      · rw [if_pos hc]; simp only [List.lookup_cons, hx]; simp
      · rw [if_neg hc]; simp only [List.lookup_cons, hx]; simp
    | false =>
      simp only [List.lookup_cons, hx] at h
      by_cases hc : (k == NameKind.free && env.scope.kind == .function && env.kindOf n == some .cell) = true
      · rw [if_pos hc]; simp only [List.lookup_cons, hx]; exact ih h
      · rw [if_neg hc]; simp only [List.lookup_cons, hx]; exact ih h
theorem relabel_back {env : Env} : ∀ {names : List (Str × NameKind)} {x : Str}, (∀ y ∈ names, y.2 ≠ .cell) →
    ((names.map fun (n, k) => if (k == NameKind.free && env.scope.kind == .function && env.kindOf n == some .cell) then (n, NameKind.cell) else (n, k)).lookup x = some .cell ∨
    (names.map fun (n, k) => if (k == NameKind.free && env.scope.kind == .function && env.kindOf n == some .cell) then (n, NameKind.cell) else (n, k)).lookup x = some .free) → names.lookup x = some .free
  | [], _, _, h => by simp at h
  | (n, k) :: r, x, hn, h => by
    have ih := @relabel_back env r x fun y hy => hn y (.tail _ hy)
    simp only [List.map_cons] at h
    cases hx : x == n with
    | true =>
      by_cases hc : (k == NameKind.free && env.scope.kind == .function && env.kindOf n == some .cell) = true
      · simp only [Bool.and_eq_true, beq_iff_eq] at hc
        simp only [List.lookup_cons, hx]
        rw [hc.1.1]
      · rw [if_neg hc] at h
        simp only [List.lookup_cons, hx] at h ⊢
        rcases h with h | h
        · exact absurd (Option.some.inj h) (hn (n, k) (.head _))
        · exact h
    | false =>
      simp only [List.lookup_cons, hx]
      by_cases hc : (k == NameKind.free && env.scope.kind == .function && env.kindOf n == some .cell) = true
      · rw [if_pos hc] at h; simp only [List.lookup_cons, hx] at h; exact ih h
      · rw [if_neg hc] at h; simp only [List.lookup_cons, hx] at h; exact ih h
structure Blk (X : Cx) (scope : Scope) (cl : List (Str × Addr)) (N : List Str) (bs : List (Option Nat)) : Prop where
  clos : closureFor scope X.env = pure cl
  kind : scope.kind = .function
  cell : ∀ y ∈ scope.names, y.2 ≠ .cell
  names : ∀ y ∈ scope.names, y.2 = .local → scope.names.lookup y.1 = some .local
  cl1 : ∀ p ∈ cl, X.env.cells.lookup p.1 = some p.2
  cl2 : ∀ y ∈ scope.names, y.2 = .free → (cl.lookup y.1).isSome = true
  bs : BsOk X.N X.env.scope.names scope.names N bs
section
variable {X : Cx} {scope : Scope} {cl : List (Str × Addr)} {N : List Str} {bs : List (Option Nat)} {pins : List (Addr × Obj)} {σ : St} {H : Hp} {s : Shared} {fp : List Addr} {C : Addr}
theorem Blk.c1 (B : Blk X scope cl N bs) {x : Str} {c : Addr} (h : cl.lookup x = some c) : X.env.cells.lookup x = some c := B.cl1 (x, c) (PySem.mem_of_lookup h)
theorem Blk.c2 (B : Blk X scope cl N bs) {x : Str} (h : (compEnvC scope cl C X.env).kindOf x = some .cell ∨ (compEnvC scope cl C X.env).kindOf x = some .free) : ∃ c, cl.lookup x = some c := by
  have h1 := relabel_back (env := X.env) B.cell h
  exact Option.isSome_iff_exists.mp (B.cl2 (x, .free) (PySem.mem_of_lookup h1) rfl)
theorem Blk.ok (B : Blk X scope cl N bs) (I : Inv X pins σ H s) (hf : ∀ b ∈ fp, FpOk X pins H b) (ho : ∀ b ∈ fp, ∃ o, s.heap.get? b = some o ∧ ∀ v, o.data ≠ .cell v) (hC : s.heap.objs.size ≤ C) : (cxBlk X scope cl C N fp s H).Ok := by
  refine ⟨I.ok.mod, B.kind, I.ok.glob, I.ok.blt, hC, fun x y c h1 h2 => I.ok.inj x y c (B.c1 h1) (B.c1 h2), fun x h => B.c2 h, fun x c h _ => (Bool.false_ne_true h).elim, I.ok.hd, I.ok.frames, .inl rfl, fun b hb => ?_, I.bs, Nat.le_trans I.ok.bsz I.sz, fun b o e hb => ?_, fun b hb hb' => ?_, I.stack, I.stkFree⟩
  · obtain ⟨o, e, _⟩ := ho b hb
    obtain ⟨_, _, _, _, f4, _⟩ := hf b hb
    exact ⟨Nat.ne_of_lt (Nat.lt_of_lt_of_le (Heap.lt_size e) hC), fun x c h => f4 x c (B.c1 h)⟩
  · obtain ⟨_, _, _, f3, _⟩ := hf b hb
    rcases f3 with z | z
    · exact I.ok.noex b o e z
    · exact absurd (Nat.lt_of_lt_of_le (Heap.lt_size e) (Nat.le_trans I.ok.bsz z)) (Nat.lt_irrefl _)
  · obtain ⟨_, f1, f2, _⟩ := hf b hb
    rcases List.mem_cons.mp (I.stkSub b hb') with z | z
    · exact f1 z
    · exact f2 z
theorem Blk.inv (B : Blk X scope cl N bs) (I : Inv X pins σ H s) (hf : ∀ b ∈ fp, FpOk X pins H b) (ho : ∀ b ∈ fp, ∃ o, s.heap.get? b = some o ∧ ∀ v, o.data ≠ .cell v) (hC : s.heap.objs.size ≤ C) {h' : Heap} {t' : Nat}
    (hk : ∀ b o, s.heap.get? b = some o → h'.get? b = some o) {m : Str → Option Value} (hn : h'.Ns C m) {D : Addr} {oD : Obj} (hD : h'.get? D = some oD) (hD1 : s.heap.objs.size ≤ D) (hDC : D ≠ C) (hDd : ∀ v, oD.data ≠ .cell v) :
    Inv (cxBlk X scope cl C N fp s H) [(D, oD)] (bst bs σ) H { s with heap := h', toks := t' } := by
  have ok : (cxBlk X scope cl C N fp s H).Ok := B.ok I hf ho hC
  refine ⟨ok, rfl, I.bare, Un.kept hk, ⟨m, hn, fun i x v e1 e2 e3 => ?_⟩, fun x c h => ?_, I.hok.fresh hC, fun x c h => I.freeC x c (B.c1 h), fun p hp => ?_, I.hok.kept hk, ?_⟩
  · have e2' : (bst bs σ)[i]? = some (some v) := e2
    unfold bst at e2'
    rw [List.getElem?_map] at e2'
    cases q : bs[i]? with
    | none => rw [q] at e2'; cases e2'
    | some o =>
      rw [q] at e2'
      cases o with
      | none => cases e2'
      | some j =>
        obtain ⟨y, y1, y2, y3, y4⟩ := B.bs.get q
        have e1' : N[i]? = some x := e1
        rw [e1'] at y1
        cases y1
        have e4 : σ[j]? = some (some v) := by
          have z : (σ[j]?).join = some v := Option.some.inj e2'
          cases w : σ[j]? with
          | none => rw [w] at z; cases z
          | some o => rw [w] at z; rw [show o = some v from z]
        obtain ⟨mx, hmx, lx⟩ := I.loc
        obtain ⟨u, r, l⟩ := lx j x v y2 e4 (.inr (.inl y3))
        refine ⟨u, r, .inr ⟨relabel_free (env := X.env) y4, ?_⟩⟩
        rcases l with ⟨l1, _⟩ | ⟨_, c, l2, l3⟩
        · have l1' : X.env.scope.names.lookup x = some .local := l1
          rw [y3] at l1'
          cases l1'
        · obtain ⟨c', h'⟩ := Option.isSome_iff_exists.mp (B.cl2 (x, .free) (PySem.mem_of_lookup y4) rfl)
          have h2 := B.c1 h'
          rw [l2] at h2
          cases h2
          obtain ⟨oc, hoc, hd⟩ := l3
          exact ⟨c, h', oc, hk _ _ hoc, hd⟩
  · obtain ⟨v, oc, hoc, hd⟩ := I.cell x c (B.c1 h)
    exact ⟨v, oc, hk _ _ hoc, hd⟩
  · have e : p = (D, oD) := by simpa [cxBlk] using hp
    subst e
    refine ⟨hD, I.hok.fresh hD1, hDC, fun z => ?_, hDd⟩
    have z' : D ∈ frs X.stack := z
    rcases List.mem_cons.mp (I.stkSub D z') with q | q
    · exact Nat.lt_irrefl _ (Nat.lt_of_lt_of_le I.lt (by rw [← q]; exact hD1))
    · exact I.nofs hD1 q
  · show (bst bs σ).length = N.length
    unfold bst
    rw [List.length_map]
    exact B.bs.len
end
def tLC (bs : List (Option Nat)) (wi : TI) (g : TG) (tt : TT) (te : TE) : TE := fun σ H Q => wi σ H fun J H1 => ∃ W : Nat → Nat → List V → St → Hp → Prop, (∃ m, W 0 m [] (bst bs σ) H1) ∧ ∀ i m ys σ' H', W i m ys σ' H' →
  (J.stop i H' ∧ ys.length ≤ sizeLine ∧ ∀ p, H' p = none → Q (.ref p) (upd H' p (.lst ys))) ∨
  (J.go i H' ∧ ys.length < sizeLine ∧ ∃ N : List V → St → Hp → Prop, (∀ zs σ2 H2, N zs σ2 H2 → ∃ m', m' < m ∧ W (i + 1) m' zs σ2 H2) ∧ ∀ x H2, J.yld i H' x H2 → g x σ' H2 fun σ3 H3 => tt σ3 H3 fun b H4 =>
    if b = true then te σ3 H4 fun v H5 => N (ys ++ [v]) σ3 H5 else N ys σ3 H4)
theorem pe_lc {X : Cx} {scope : Scope} {cl : List (Str × Addr)} {N : List Str} {bs : List (Option Nat)} {tg iter elt : Expr} {ifs : List Expr} {pos : Pos} {wi : TI} {g : TG} {tt : TT} {te : TE} (B : Blk X scope cl N bs) (hc : X.calm = true)
    (hi : PI X tg iter wi) (hg : ∀ C fp s H, PG (cxBlk X scope cl C N fp s H) tg g) (ht : ∀ C fp s H, PTs (cxBlk X scope cl C N fp s H) ifs tt) (he : ∀ C fp s H, PE (cxBlk X scope cl C N fp s H) elt te)
    (hs : ∀ x, foldedSetIterable iter X.env x = pure x := by intro _; rfl) :
    PE X (.ListComp elt [⟨tg, iter, ifs, 0⟩] scope pos) (tLC bs wi g tt te) := by
  intro pins s σ H Q I h
  rw [eval_ListComp]
  refine wpAny_comprehension_free (use := none) rfl hs B.clos B.kind B.names (thn (hi pins s σ H _ I h) fun v s1 h1 => thn h1 fun itv s2 h2 => ?_)
  obtain ⟨it, fp, tn, J, H2, rfl, I2, T, st2, f2, W, ⟨m0, w0⟩, turn⟩ := h2
  refine wpAny_newObj_type (wpAny_newFunctionEnv B.cell (by intro y hy; simp at hy) (fun h₁ hns₁ hsb₁ => ?_) B.kind)
  dsimp only at hns₁ hsb₁ ⊢
  generalize hG : s2.heap.push { cls := .type "list", dict := none, data := .seq ([] : List Value).toArray } = G at hns₁ hsb₁ ⊢
  have hC : G.objs.size = s2.heap.objs.size + 1 := by rw [← hG, Heap.size_push]
  have hDC : s2.heap.objs.size ≠ G.objs.size := by rw [hC]; exact Nat.ne_of_lt (Nat.lt_succ_self _)
  have hCle : s2.heap.objs.size ≤ G.objs.size := by rw [hC]; exact Nat.le_succ _
  have old : ∀ b o, s2.heap.get? b = some o → h₁.get? b = some o := fun b o e => hsb₁.extBut b o (by rw [hC]; exact Nat.ne_of_lt (Nat.lt_succ_of_lt (Heap.lt_size e))) (Heap.get?_push_of_some _ (hG ▸ Heap.get?_push_of_some _ e))
  have hacc : h₁.get? s2.heap.objs.size = some { cls := .type "list", data := .seq ([] : List Value).toArray 0 } := hsb₁.extBut _ _ hDC (Heap.get?_push_of_some _ (hG ▸ Heap.get?_push_size _ rfl))
  have stat : ∀ {D : Addr} {o : Obj} {H' : Hp}, s2.heap.objs.size ≤ D → (∀ b ∈ fp, H' b = none) → ∀ b ∈ fp, FpOk (cxBlk X scope cl G.objs.size N fp s2 H2) [(D, o)] H' b := fun {D o H'} hD hn b hb => by
    obtain ⟨ob, eb, _⟩ := T.obj _ _ st2 b hb
    obtain ⟨_, f1, f3, f4, f5, _⟩ := f2 b hb
    have ok := B.ok I2 f2 (T.obj _ _ st2) (C := G.objs.size) hCle
    refine ⟨hn b hb, (ok.exf b hb).1, ok.exfs b hb, .inl hb, (ok.exf b hb).2, fun p hp => ?_⟩
    have e : p = (D, o) := by simpa [cxBlk] using hp
    subst e
    exact Nat.ne_of_gt (Nat.lt_of_lt_of_le (Heap.lt_size eb) hD)
  have loop : ∀ s₃ : Shared, s₃ = { s2 with heap := h₁, toks := s2.toks + ([] : List (Str × Value)).length } →
      codeAny (model X.prog X.w) X.A (.compLoop (.ListComp elt [⟨tg, iter, ifs, 0⟩] scope pos) 0 (.ref it) (.ref s2.heap.objs.size) (compEnvC scope cl G.objs.size X.env))
        (compPost (model X.prog X.w) X.A X.xe none (EP X pins σ Q) (.ref s2.heap.objs.size) G.objs.size) s₃ := by
    rintro s₃ rfl
    refine codeAny_compLoop_go (fun n s' => ∃ i ys its k σ' H', Inv (cxBlk X scope cl G.objs.size N fp s2 H2) [(s2.heap.objs.size, { cls := .type "list", data := .seq (List.toArray its) k })] σ' H' s' ∧ Vals ys its ∧ tn i s'.heap ∧ (∀ b ∈ fp, H' b = none) ∧ W i n ys σ' H') ?_ m0
      ⟨0, [], [], 0, bst bs σ, H2, B.inv I2 f2 (T.obj _ _ st2) hCle old hns₁ hacc (Nat.le_refl _) hDC (fun v z => nomatch z), .nil, T.keep _ _ _ st2 fun b _ o e => old b o e, fun b hb => (f2 b hb).1, w0⟩
    rintro n s3 ⟨i, ys, its, k, σ3, H3, I3, rv, st3, fr3, w3⟩
    have pD := I3.pin _ (List.mem_append_right _ (.head _))
    rcases turn i n ys σ3 H3 w3 with ⟨stop, hz, qn⟩ | ⟨go, hz, NN, hNN, step⟩
    · refine thn (T.done (cxBlk X scope cl G.objs.size N fp s2 H2) rfl rfl rfl hc i _ s3 σ3 H3 (fun _ _ => False) I3 (stat (Nat.le_refl _) fr3) st3 stop) fun r s4 ⟨hr, I4⟩ => ?_
      subst hr
      have pD4 := I4.pin _ (List.mem_append_right _ (.head _))
      obtain ⟨m4, hn4, _⟩ := I4.loc
      refine ⟨m4, hn4, fun h5 sb5 => ?_⟩
      have hD5 : h5.get? s2.heap.objs.size = some { cls := .type "list", data := .seq (List.toArray its) k } := sb5.extBut _ _ hDC pD4.1
      have k5 : ∀ b o, b ≠ G.objs.size → s4.heap.get? b = some o → h5.get? b = some o := fun b o hb e => sb5.extBut b o hb e
      have hC4 : H3 G.objs.size = none := I4.free
      have hok4 : HOk X.prog X.w H3 s4.heap := I4.hok
      have hok5 : HOk X.prog X.w (upd H3 s2.heap.objs.size (.lst ys)) h5 := fun b u e => by
        by_cases hb : b = s2.heap.objs.size
        · subst hb
          rw [upd_same] at e
          cases e
          exact ⟨hz, its, k, rv, hD5⟩
        · rw [upd_ne hb] at e
          have nC : ∀ c u', H3 c = some u' → c ≠ G.objs.size := fun c u' q z => by rw [z, hC4] at q; cases q
          have nD : ∀ c u', H3 c = some u' → c ≠ s2.heap.objs.size := fun c u' q z => by rw [z, pD4.2.1] at q; cases q
          refine (hok4 b u e).stay (fun c v hc' q => k5 c v ?_ q) (fun c q => by rw [upd_ne (nD c _ q)]; exact q) fun c xs q => by rw [upd_ne (nD c _ q)]; exact q
          rcases hc' with z | z
          · rw [z]; exact nC b u e
          · exact nC c _ z
      have un4 : Un (frs X.stack) fp H2 H3 s2.heap s4.heap := I4.base
      have neC : ∀ b o, s2.heap.get? b = some o → b ≠ G.objs.size := fun b o e => Nat.ne_of_lt (Nat.lt_of_lt_of_le (Heap.lt_size e) hCle)
      have neD : ∀ b o, s2.heap.get? b = some o → b ≠ s2.heap.objs.size := fun b o e => Nat.ne_of_lt (Heap.lt_size e)
      have un5 : Un (frs X.stack) fp H2 (upd H3 s2.heap.objs.size (.lst ys)) s2.heap h5 := {
        keep := fun b o e n hb hx => k5 b o (neC b o e) (un4.keep b o e n hb hx)
        slot := fun b o e n hb hx => let ⟨sl, q⟩ := un4.slot b o e n hb hx; ⟨sl, k5 b _ (neC b o e) q⟩
        free := fun b o e n hx => by rw [upd_ne (neD b o e)]; exact un4.free b o e n hx
        there := fun b o e hx => let ⟨o', q⟩ := un4.there b o e hx; ⟨o', k5 b _ (neC b o e) q⟩
        tups := fun b xs e => by rw [upd_ne (ne_of_none e (I2.hok.fresh (Nat.le_refl _)))]; exact un4.tups b xs e
        frzs := fun b o u e => by rw [upd_ne (ne_of_none e (I2.hok.fresh (Nat.le_refl _)))]; exact un4.frzs b o u e
        tbls := fun b ps e => by rw [upd_ne (ne_of_none e (I2.hok.fresh (Nat.le_refl _)))]; exact un4.tbls b ps e }
      refine ⟨.ref s2.heap.objs.size, _, I2.call' (s' := { s4 with heap := h5 }) ((show s4.os = s2.os from I4.os)) un5 hok5 I4.bare (fun b hb => ?_), rfl, qn _ pD4.2.1⟩
      obtain ⟨_, f1, f3, f4, f5, f6⟩ := f2 b hb
      exact ⟨f4, f1, f5, f6⟩
    · refine thn (T.item (cxBlk X scope cl G.objs.size N fp s2 H2) rfl rfl rfl hc i _ s3 σ3 H3 (fun _ _ => False) I3 (stat (Nat.le_refl _) fr3) st3 go) fun r s4 ⟨u, hr, h4⟩ => ?_
      subst hr
      refine thn h4 fun _ s5 ⟨x, H5, I5, r5, y5, st5, fr5⟩ => ?_
      have I5' := I5.pinned (stat (Nat.le_refl _) fr5) (T.obj _ _ st5)
      refine thn (hg _ _ _ _ _ s5 σ3 H5 x u _ I5' r5 (step x H5 y5)) fun _ s6 ⟨σ6, H6, I6, q6⟩ => ?_
      refine thn (ht _ _ _ _ _ s6 σ6 H6 _ I6 q6) fun ok s7 ⟨H7, I7, q7⟩ => ?_
      have back : ∀ {σ8 : St} {H8 : Hp} {s8 : Shared} {pl : List (Addr × Obj)}, Inv (cxBlk X scope cl G.objs.size N fp s2 H2) (pl ++ pinsAt fp s5.heap) σ8 H8 s8 → tn (i + 1) s8.heap ∧ ∀ b ∈ fp, H8 b = none := fun {σ8 H8 s8 pl} I8 =>
        ⟨T.keep _ _ _ st5 fun b hb o e => (I8.pin (b, o) (List.mem_append_right _ (List.mem_append_right _ (mem_pinsAt hb e)))).1, fun b hb => by
          obtain ⟨o, e, d⟩ := T.obj _ _ st5 b hb
          exact (I8.pin (b, o) (List.mem_append_right _ (List.mem_append_right _ (mem_pinsAt hb e)))).2.1⟩
      cases ok with
      | false =>
        rw [if_neg Bool.false_ne_true] at q7 ⊢
        obtain ⟨m', hm, w7⟩ := hNN _ _ _ q7
        exact ⟨m', hm, i + 1, ys, its, k, σ6, H7, I7.unpinned, rv, (back I7).1, (back I7).2, w7⟩
      | true =>
        rw [if_pos rfl] at q7 ⊢
        refine thn (he _ _ _ _ _ s7 σ6 H7 _ I7 q7) fun y s8 ⟨v8, H8, I8, r8, q8⟩ => ?_
        obtain ⟨m', hm, w8⟩ := hNN _ _ _ q8
        have pD8 := I8.pin _ (List.mem_append_right _ (List.mem_append_left _ (.head _)))
        have hl := rv.length
        refine wpAny_list_append_plain ⟨k, pD8.1⟩ (fun h9 pl9 sb9 => ?_) (by rw [List.size_toArray]; omega)
        obtain ⟨k9, e9⟩ := pl9
        have e9' : h9.get? s2.heap.objs.size = some { cls := .type "list", data := .seq (List.toArray (its ++ [y])) k9 } := by rw [e9]; simp
        have I8' : Inv (cxBlk X scope cl G.objs.size N fp s2 H2) (pinsAt fp s5.heap) σ6 H8 s8 := I8.pins_of fun p hp => I8.pin p (List.mem_append_right _ (List.mem_append_right _ hp))
        have I9 : Inv (cxBlk X scope cl G.objs.size N fp s2 H2) (pinsAt fp s5.heap) σ6 H8 { s8 with heap := h9 } := I8'.turned (it := s2.heap.objs.size) (t' := s8.toks) (fun b o hb e => sb9.extBut b o hb e) pD8.2.1 pD8.2.2.1 (.inr (Nat.le_refl _))
          (fun x c e z => by
            obtain ⟨vc, oc, hoc, hd⟩ := I8.cell x c e
            rw [z, pD8.1] at hoc
            cases hoc
            cases hd)
          fun p hp z => by
            have hp' : p ∈ pinsAt fp s5.heap := by simpa [cxBlk] using hp
            obtain ⟨q1, q2⟩ := of_pinsAt hp'
            obtain ⟨ob, eb, _⟩ := T.obj _ _ st2 p.1 q1
            exact Nat.lt_irrefl _ (by have := Heap.lt_size eb; rw [z] at this; exact this)
        have hk9 : ∀ b ∈ fp, ∀ o, s8.heap.get? b = some o → h9.get? b = some o := fun b hb o e => sb9.extBut b o (fun z => by
          obtain ⟨ob, eb, _⟩ := T.obj _ _ st2 b hb
          exact Nat.lt_irrefl _ (by have := Heap.lt_size eb; rw [z] at this; exact this)) e
        refine ⟨m', hm, i + 1, ys ++ [v8], its ++ [y], k9, σ6, H8, I9.pins_of fun p hp => ?_, rv.append (.cons r8 .nil), T.keep _ _ _ (back I8).1 hk9, (back I8).2, w8⟩
        have e : p = (s2.heap.objs.size, { cls := .type "list", data := .seq (List.toArray (its ++ [y])) k9 }) := by simpa using hp
        subst e
        exact ⟨e9', pD8.2.1, pD8.2.2.1, pD8.2.2.2.1, fun v z => nomatch z⟩
  exact codeAny_compStart_list (loop _ rfl) (T.self _ 0 _ _ _ (T.keep _ _ _ st2 fun b _ o e => old b o e) (loop _ rfl))
theorem lc_tup {K : PySem.W.Frag} {a : Addr} {xs : List V} {g : TG} {tt : TT} {te : TE} {σ : St} {H : Hp} {Q : VK} (Pv : Nat → List V → St → Hp → Prop) (hz : xs.length ≤ sizeLine) (h0 : Pv 0 [] σ H) (hl : ∀ i ys σ H, i ≤ xs.length → Pv i ys σ H → SqT K H a xs ∧ ys.length ≤ i)
    (hs : ∀ i x ys σ H, xs[i]? = some x → Pv i ys σ H → g x σ H fun σ3 H3 => tt σ3 H3 fun b H4 => if b = true then te σ3 H4 fun v H5 => Pv (i + 1) (ys ++ [v]) σ3 H5 else Pv (i + 1) ys σ3 H4)
    (hd : ∀ ys σ H, Pv xs.length ys σ H → ∀ p, H p = none → Q (.ref p) (upd H p (.lst ys))) :
    ∃ W : Nat → Nat → List V → St → Hp → Prop, (∃ m, W 0 m [] σ H) ∧ ∀ i m ys σ' H', W i m ys σ' H' →
      ((Itt K a).stop i H' ∧ ys.length ≤ sizeLine ∧ ∀ p, H' p = none → Q (.ref p) (upd H' p (.lst ys))) ∨
      ((Itt K a).go i H' ∧ ys.length < sizeLine ∧ ∃ N : List V → St → Hp → Prop, (∀ zs σ2 H2, N zs σ2 H2 → ∃ m', m' < m ∧ W (i + 1) m' zs σ2 H2) ∧ ∀ x H2, (Itt K a).yld i H' x H2 → g x σ' H2 fun σ3 H3 => tt σ3 H3 fun b H4 =>
        if b = true then te σ3 H4 fun v H5 => N (ys ++ [v]) σ3 H5 else N ys σ3 H4) := by
  refine ⟨fun i m ys σ H => m = xs.length - i ∧ i ≤ xs.length ∧ Pv i ys σ H, ⟨xs.length, by simp, Nat.zero_le _, h0⟩, ?_⟩
  rintro i m ys σ H ⟨rfl, hi, p⟩
  obtain ⟨q, ql⟩ := hl i ys σ H hi p
  by_cases hlt : i < xs.length
  · refine .inr ⟨⟨xs, xs[i], q, by simp [hlt]⟩, by omega, Pv (i + 1), fun zs σ' H' p' => ⟨xs.length - (i + 1), by omega, rfl, hlt, p'⟩, fun x H' y => ?_⟩
    obtain ⟨e, y⟩ := y
    subst e
    exact hs i x ys σ _ (y xs q) p
  · have e : i = xs.length := by omega
    subst e
    exact .inl ⟨⟨xs, q, Nat.le_refl _⟩, by omega, hd ys σ H p⟩
end L2
set_option Elab.async false
set_option linter.all false
set_option maxRecDepth 100000
namespace L2
open PySem PySem.Spec PyProof.Rows
def BM (mg : Str → Option Value) (h : Heap) : Prop :=
  ∃ bm ob, mg "__builtins__" = some (.ref bm) ∧ bm ≠ builtinsNs ∧ h.get? bm = some ob ∧ ob.cls = .type "module" ∧ ob.dict = some builtinsNs ∧ ob.data = .plain
theorem law_callT {P : Program} {w : World} {K : PySem.W.Frag} {mg mb : Str → Option Value} {CX : CXT} {k : Nat} {fa a : Addr} {fd : FuncData} {x : Str} {sp : Sp} {s₁ : Shared} {vs : List Value} {ns : List Int} {ts : List Addr}
    (KX : K.In s₁.heap) (hns : s₁.heap.Ns mainGlobals mg) (hb : s₁.heap.Ns builtinsNs mb) (hbb : ∀ x : Str, x ≠ "__name__" → mb x = bootBuiltins x) (hlim : s₁.heap.NoLimit) (hg : s₁.gens = #[])
    (ha : s₁.heap.get? a = some { cls := .type "list", data := .seq vs.toArray }) (hi : IntsAre vs ns) (hl : ns.length ≤ sizeLine) (hr : Room k callerA)
    (hT : ∀ Pt ∈ ts, s₁.heap.get? Pt = some (PySem.W.tabObj #[]) ∧ isCodeTable s₁.heap Pt) (hKn : PySem.W.noTabs K = true) (hbm : BM mg s₁.heap)
    (F : ∀ base : Heap, K.In base → base.Ns mainGlobals mg → BM mg base → FnOk P w K mg base CX k fa fd [x] sp) (hbind : ∀ (s : Shared) (u : Value), BindsTo s fd ⟨[u], []⟩ [(x, u)])
    (hsp : ∀ H : Hp, (∀ Pt ∈ ts, H Pt = some (.tbl #[])) → SqL K H a (ns.map V.int) → sp [.ref a] H (fun v _ => v = .bl true) fun _ _ _ => False)
    (hCX : ∀ H e s', CX [] H s₁ (fun _ _ _ => False) e s' → False) :
    codeAny (model P w) callerA (.call (.ref fa) ⟨[.ref a], []⟩) (fun r s' => r = .ok (.ret (.bool true)) ∧ OldK s₁.heap s'.heap ∧ s'.os = s₁.os ∧ AllBare s'.gens) s₁ := by
  have rv := vals_ints hi
  have lenV := hi.length
  have aT : a ∉ ts := fun z => by
    have e := (hT a z).1
    rw [ha] at e
    cases e
  have core : ∀ H : Hp, SqL K H a (ns.map V.int) → HOk P w H s₁.heap → (∀ b, H b ≠ none → b = a ∨ b ∈ ts) → (H a ≠ none → K.lookup a = none) → (∀ u, H a = some u → ∃ o xs, u = .frz o (.lst xs)) → (∀ Pt ∈ ts, H Pt = some (.tbl #[])) →
      codeAny (model P w) callerA (.call (.ref fa) ⟨[.ref a], []⟩) (fun r s' => r = .ok (.ret (.bool true)) ∧ OldK s₁.heap s'.heap ∧ s'.os = s₁.os ∧ AllBare s'.gens) s₁ := by
    intro H hS hok hA hK hfz htb
    have base_of : ∀ {b : Addr} {o : Obj}, s₁.heap.get? b = some o → H b = none → (hidT s₁.heap H).get? b = some o := fun e n => hidT_get e n
    have free_of : ∀ {b : Addr} {o : Obj}, s₁.heap.get? b = some o → o ≠ { cls := .type "list", data := .seq vs.toArray } → o ≠ PySem.W.tabObj #[] → H b = none := fun {b o} e n1 n2 => by
      cases q : H b with
      | none => rfl
      | some u =>
        rcases hA b (by rw [q]; simp) with z | z
        · subst z
          rw [ha] at e; cases e
          exact absurd rfl n1
        · rw [(hT b z).1] at e; cases e
          exact absurd rfl n2
    have noA : ∀ {b : Addr} {o : Obj} {es : Array DictEntry} {ep : Nat}, s₁.heap.get? b = some o → o.data = .dict es ep → H b = none := fun {b o es ep} e d =>
      free_of e (fun z => by rw [z] at d; cases d) fun z => by rw [z] at d; cases d
    have nsK : ∀ {b : Addr} {m : Str → Option Value}, s₁.heap.Ns b m → (hidT s₁.heap H).Ns b m := fun {b m} ⟨o, es, ep, e, d, r⟩ => ⟨o, es, ep, base_of e (noA e d), d, r⟩
    have hKb : K.In (hidT s₁.heap H) := fun b o e => base_of (KX b o e) (by
      cases q : H b with
      | none => rfl
      | some u =>
        rcases hA b (by rw [q]; simp) with z | z
        · subst z
          rw [hK (by rw [q]; simp)] at e; cases e
        · have e1 := (hT b z).1
          rw [KX b o e] at e1
          cases e1
          have h2 := List.all_eq_true.mp hKn (b, _) (PySem.W.mem_of_lookupK e)
          exact absurd (show false = true from h2) Bool.false_ne_true)
    have hM : Mod K mg (hidT s₁.heap H) := ⟨hKb, nsK hns, ⟨mb, nsK hb, hbb⟩, let ⟨mc, h1, h2⟩ := hlim; ⟨mc, nsK h1, h2⟩⟩
    have hBM : BM mg (hidT s₁.heap H) := by
      obtain ⟨bm, ob, b1, b2, b3, b4, b5⟩ := hbm
      exact ⟨bm, ob, b1, b2, base_of b3 (free_of b3 (fun z => by rw [z] at b4; exact absurd (Value.type.inj b4) (by decide)) fun z => by rw [z] at b4; cases b4), b4, b5⟩
    have e0 : Env0 P w K mg (hidT s₁.heap H) callerA [] s₁ H := ⟨rfl, hM, fun b o e => of_hidT e, Nat.le_of_eq (hidT_size _ _), trivial, fun b hb => absurd (show b ∈ ([] : List Addr) from hb) (by simp), hok, .of_eq hg⟩
    refine codeAny_mono ((F _ hKb (nsK hns) hBM).run callerA [] s₁ H ⟨[.ref a], []⟩ [.ref a] [.ref a] _ _ hr e0 (hbind s₁ (.ref a)) (.cons rfl .nil) (hsp H htb hS)) fun r s' h => ?_
    cases r with
    | error e => exact (hCX H e s' h).elim
    | ok fl =>
      cases fl with
      | next => exact False.elim h
      | brk => exact False.elim h
      | cont => exact False.elim h
      | ret u =>
        obtain ⟨v, H', os, bare, un, hok', r', q⟩ := h
        have q' : v = .bl true := q
        subst q'
        obtain rfl : u = Value.bool true := r'
        have key : ∀ b o, s₁.heap.get? b = some o → s'.heap.get? b = some o ∨ (b ∈ ts ∧ o = PySem.W.tabObj #[] ∧ ∃ ps, s'.heap.get? b = some (PySem.W.tabObj ps)) := fun b o e => by
          cases q : H b with
          | none => exact .inl (un.keep b o e q (by intro z; exact absurd (show b ∈ ([] : List Addr) from z) (by simp)) (by simp))
          | some u =>
            rcases hA b (by rw [q]; simp) with z | z
            · subst z
              obtain ⟨ob, xs, rfl⟩ := hfz u q
              have z2 := un.frzs b ob _ q
              obtain ⟨e1, _⟩ := hok b _ q
              obtain ⟨e2, _⟩ := hok' b _ z2
              rw [e] at e1; cases e1
              exact .inl e2
            · have e1 := (hT b z).1
              rw [e] at e1; cases e1
              obtain ⟨more, z2⟩ := un.tbls b _ (htb b z)
              exact .inr ⟨z, rfl, _, hok' b _ z2⟩
        refine ⟨rfl, ⟨fun b o e => ?_, fun b o e => ?_⟩, os, bare⟩
        · rcases key b o e with z | ⟨z, rfl, ps, z2⟩
          · exact .inl z
          · exact .inr (.inl ⟨(hT b z).2, rfl, #[], ps, rfl, by rw [z2]; simp⟩)
        · rcases key b o e with z | ⟨z, rfl, ps, z2⟩
          · exact ⟨_, z⟩
          · exact ⟨_, z2⟩
  have tOk : ∀ {H : Hp} {Pt : Addr}, Pt ∈ ts → ObjOk P w H s₁.heap Pt (.tbl #[]) := fun {H Pt} z => (hT Pt z).1
  cases hk : K.lookup a with
  | some o =>
    have e := KX a o hk
    rw [ha] at e
    cases e
    refine core (fun b => if b ∈ ts then some (.tbl #[]) else none) (.inr ⟨_, vs.toArray, _, hk, rfl, rfl, rfl, by rw [List.size_toArray, lenV]; exact hl, by simpa using rv⟩) (fun b u z => ?_) (fun b z => ?_) (fun z => absurd (if_neg aT) z) (fun u z => by rw [if_neg aT] at z; cases z) fun Pt z => if_pos z
    · by_cases hb : b ∈ ts
      · have z' := (if_pos hb).symm.trans z
        cases z'
        exact tOk hb
      · have z' := (if_neg hb).symm.trans z
        cases z'
    · by_cases hb : b ∈ ts
      · exact .inr hb
      · exact absurd (if_neg hb) z
  | none =>
    refine core (fun b => if b = a then some (.frz { cls := .type "list", data := .seq vs.toArray } (.lst (ns.map V.int))) else if b ∈ ts then some (.tbl #[]) else none) (.inl (.inr ⟨{ cls := .type "list", data := .seq vs.toArray }, if_pos rfl⟩)) (fun b u z => ?_) (fun b z => ?_) (fun _ => hk)
      (fun u z => by rw [if_pos rfl] at z; cases z; exact ⟨_, _, rfl⟩) fun Pt z => by rw [if_neg (fun (q : Pt = a) => aT (q ▸ z)), if_pos z]
    · by_cases hb : b = a
      · have z' := (if_pos hb).symm.trans z
        cases z'
        subst hb
        exact ⟨ha, by rw [List.length_map]; exact hl, vs, _, rv, ha⟩
      · have z' := (if_neg hb).symm.trans z
        by_cases hb2 : b ∈ ts
        · rw [if_pos hb2] at z'
          cases z'
          exact tOk hb2
        · rw [if_neg hb2] at z'
          cases z'
    · by_cases hb : b = a
      · exact .inl hb
      · by_cases hb2 : b ∈ ts
        · exact .inr hb2
        · exact absurd ((if_neg hb).trans (if_neg hb2)) z
theorem walk_ofT {l : PySem.W.OpenLaw} {n k : Nat} {q : Program} {loose : List Str} {XP : (Str → Option Value) → Heap → Prop} {YP : World → Heap → Prop} {d : DefRec} {K : Params → PySem.W.Frag} {sp : PySem.W.Frag → Sp} {x : Str} {ts : List Addr}
    (hn : l.most = some n) (hn2 : n ≤ sizeLine) (hdf : d.params.defaults = []) (hr : Room k callerA)
    (hY : ∀ (w : World) (h : Heap), YP w h → (K w.params).In h) (hY2 : ∀ (w : World) (h : Heap), YP w h → ∀ Pt ∈ ts, h.get? Pt = some (PySem.W.tabObj #[]))
    (hKn : ∀ w : World, PySem.W.noTabs (K w.params) = true) (hC : ∀ w : World, ∀ Pt ∈ ts, ∃ c, PySem.W.codeHdIn (K w.params) c Pt = true)
    (F : ∀ (w : World) (mg : Str → Option Value) (fa : Addr) (h : Heap), (K w.params).In h → h.Ns mainGlobals mg → mg d.name = some (.ref fa) →
      ∃ fd : FuncData, (∀ (s : Shared) (u : Value), BindsTo s fd ⟨[u], []⟩ [(x, u)]) ∧
        ∀ base : Heap, (K w.params).In base → base.Ns mainGlobals mg → BM mg base → FnOk l.prog w (K w.params) mg base CX0 k fa fd [x] (sp (K w.params)))
    (hsp : ∀ (K : PySem.W.Frag) (H : Hp) (a : Addr) (ns : List Int), ns.length ≤ n → (∀ Pt ∈ ts, H Pt = some (.tbl #[])) → SqL K H a (ns.map V.int) → sp K [.ref a] H (fun v _ => v = .bl true) fun _ _ _ => False) :
    PySem.W.WalkO q loose XP YP l.row.toRowW d [] (fun f vs => PySem.call f vs) := by
  refine Att.attach_call hn hdf fun w s₀ s₁ mg mb fa o pm cd doc a vs ns G Y ho hd hcd hmg hobj hints hlen hg => ?_
  have KX := hY w _ Y
  obtain ⟨fd, hb, hF⟩ := F w mg fa _ KX G.T.g hmg
  refine law_callT KX G.T.g G.T.b G.T.builtins G.T.nolimit hg hobj hints (Nat.le_trans hlen hn2) hr (fun Pt hP => ⟨hY2 w _ Y Pt hP, ?_⟩) (hKn w) G.T.bmain hF hb (fun H hT hS => hsp (K w.params) H a ns hlen hT hS) fun H e s' z => z
  obtain ⟨c, hc⟩ := hC w Pt hP
  exact ((PySem.W.codeHd_of_K KX hc).tab (hY2 w _ Y Pt hP)).isCodeTable
def cxLam (P : Program) (w : World) (K : PySem.W.Frag) (mg : Str → Option Value) (base : Heap) (N : List Str) (qual : Str) (scope : Scope) (cl : List (Str × Addr)) (f c' : Addr) (A : Around) (outer : List Env) (s : Shared) (H : Hp) : Cx where
  prog := P
  w := w
  K := K
  mg := mg
  base := base
  A := A.deeper (PySem.W.envX qual scope s.heap.objs.size f (.ref c') cl)
  N := N
  s₀ := s
  H₀ := H
  env := PySem.W.envX qual scope s.heap.objs.size f (.ref c') cl
  outer := outer
  stack := PySem.W.envX qual scope s.heap.objs.size f (.ref c') cl :: outer
  ex := []
  calm := true
  fn := fun _ => false
  pn := []
  xe := fun _ _ => False
structure Lam (x : Str) (fr : List Str) (params : Arguments) (scope : Scope) : Prop where
  kind : scope.kind = .function
  co : scope.isCoroutine = false
  gen : scope.isGenerator = false
  cell : ∀ y ∈ scope.names, y.2 ≠ .cell
  par : scope.names.lookup x = some .local
  bind : ∀ (nm qual : Str) (body : Expr) (cl : List (Str × Addr)) (pm cdv ct u : Value), bindArgs (PySem.W.kla_fn nm qual params body scope cl pm cdv ct) ⟨[u], []⟩ = pure [(x, u)]
  free : ∀ y ∈ fr, scope.names.lookup y = some .free
def ClosAt (cl : List (Str × Addr)) (H : Hp) (h : Heap) (fr : List Str) (fv : List V) : Prop :=
  fr.length = fv.length ∧ ∀ (i : Nat) (y : Str) (v : V), fr[i]? = some y → fv[i]? = some v → ∃ u c, RelV v u ∧ cl.lookup y = some c ∧ h.IsCell c (some u)
theorem lam_run {P : Program} {w : World} {K : PySem.W.Frag} {mg : Str → Option Value} {base : Heap} {k : Nat} {A : Around} {outer : List Env} {s : Shared} {H : Hp} {nm qual : Str} {params : Arguments} {body : Expr} {scope : Scope} {cl : List (Str × Addr)} {pm ctv u : Value} {c' f : Addr} {x : Str} {fr : List Str} {fv : List V} {v : V} {te : TE} {Q : VK}
    (L : Lam x fr params scope) (hr : Room (k + 1) A) (e0 : Env0 P w K mg base A outer s H)
    (hf : s.heap.get? f = some (PySem.W.kla_obj nm qual params body scope cl pm c' ctv)) (hcd : s.heap.CodeRec (.ref c') qual)
    (hinj : ∀ y z c, cl.lookup y = some c → cl.lookup z = some c → y = z) (hhas : ∀ y ∈ scope.names, y.2 = .free → (cl.lookup y.1).isSome = true) (hcells : ∀ y c, cl.lookup y = some c → (∃ v, s.heap.IsCell c v) ∧ H c = none)
    (hC : ClosAt cl H s.heap fr fv) (rv : RelV v u)
    (hbody : PE (cxLam P w K mg base (x :: fr) qual scope cl f c' A outer s H) body te) (hq : te (some v :: fv.map some) H Q) :
    codeAny (model P w) A (.call (.ref f) ⟨[u], []⟩) (CR CX0 outer P w H s Q E0) s := by
  have lim : s.heap.NoLimit := e0.mod.nolimit.keeps fun b o e => (e0.bs b o e).1
  refine PySem.W.kla_callFunE hr.depth hf rfl L.co L.gen rfl hcd ?_
  rw [L.bind]
  refine wpAny_pure (wpAny_newFunctionEnv L.cell (fun y hy => ?_) (fun h₁ hns hsb => ⟨lim.fresh _ hsb, ?_⟩) L.kind)
  · obtain rfl : y = (x, u) := List.mem_singleton.mp hy
    exact L.par
  show codeAny _ _ (.expr body (PySem.W.envX qual scope s.heap.objs.size f (.ref c') cl)) _ _
  have hk₁ : ∀ b o, s.heap.get? b = some o → h₁.get? b = some o := fun b o e => hsb.extBut b o (Nat.ne_of_lt (Heap.lt_size e)) (Heap.get?_push_of_some _ e)
  have cellK : ∀ c v, s.heap.IsCell c v → h₁.IsCell c v := fun c v ⟨o, ho, hd⟩ => ⟨o, hk₁ _ _ ho, hd⟩
  have noA : ∀ b : Addr, b ∉ (cxLam P w K mg base (x :: fr) qual scope cl f c' A outer s H).ex := fun b z => absurd (show b ∈ ([] : List Addr) from z) (by simp)
  have I : Inv (cxLam P w K mg base (x :: fr) qual scope cl f c' A outer s H) [] (some v :: fv.map some) H { s with heap := h₁, toks := s.toks + [(x, u)].length } := by
    refine ⟨⟨e0.mod, L.kind, rfl, rfl, Nat.le_refl _, hinj, fun y hy => ?_, fun y c h _ => (Bool.false_ne_true h).elim, fun _ => hr.hd, Around.frames_deeper e0.frames, .inr ⟨rfl, rfl⟩, fun b z => absurd z (noA b), e0.bs, e0.bsz, fun b _ _ => noA b, fun b z => absurd z (noA b), e0.funs, e0.frf⟩,
      rfl, e0.bare, Un.kept hk₁, ⟨_, hns, fun i y z h1 h2 h3 => ?_⟩, fun y c h => ?_, e0.hok.fresh (Nat.le_refl _), fun y c h => (hcells y c h).2, fun p hp => absurd (show p ∈ ([] : List (Addr × Obj)) from hp) (by simp), e0.hok.kept hk₁, ?_⟩
    · have hy' : scope.names.lookup y = some .cell ∨ scope.names.lookup y = some .free := hy
      rcases hy' with q | q
      · exact absurd rfl (L.cell _ (PySem.mem_of_lookup q))
      · exact Option.isSome_iff_exists.mp (hhas (y, .free) (PySem.mem_of_lookup q) rfl)
    · cases i with
      | zero =>
        have e1 : x = y := by simpa using (show (x :: fr)[0]? = some y from h1)
        have e2 : v = z := by simpa using h2
        subst e1
        subst e2
        refine ⟨u, rv, .inl ⟨L.par, ?_⟩⟩
        simp
      | succ j =>
        have e1 : fr[j]? = some y := by simpa using (show (x :: fr)[j + 1]? = some y from h1)
        have e2 : fv[j]? = some z := by
          have := h2
          simp only [List.getElem?_cons_succ, List.getElem?_map] at this
          cases q : fv[j]? with
          | none => rw [q] at this; cases this
          | some a => rw [q] at this; cases this; rfl
        obtain ⟨u', c, r, l, ce⟩ := hC.2 j y z e1 e2
        exact ⟨u', r, .inr ⟨.inr (L.free y (List.mem_of_getElem? e1)), c, l, cellK _ _ ce⟩⟩
    · obtain ⟨⟨z, q⟩, _⟩ := hcells y c h
      exact ⟨z, cellK _ _ q⟩
    · show (some v :: fv.map some).length = (x :: fr).length
      simp [hC.1]
  refine PySem.W.kla_codeExpr (wpAny_mono (hbody [] _ _ H Q I hq) (fun z s' hs => ?_) fun _ _ z => z.elim)
  obtain ⟨v', H', J, r', q'⟩ := hs
  exact ⟨v', H', J.os, J.bare, J.base, J.hok, r', q'⟩
def TabE (qual : Str) (c' : Addr) : HO := .ext fun h => h.CodeRec (.ref c') qual
def TabI (P : Addr) (pos : Pos) (qual : Str) (H : Hp) : Prop :=
  H P = some (.tbl #[]) ∨ ∃ c', H P = some (.tbl #[rawInt pos.line, rawInt pos.col, .ref c']) ∧ H c' = some (TabE qual c')
structure Gr (P : Addr) (pos : Pos) (qual : Str) (H H' : Hp) : Prop where
  keep : ∀ b o, H b = some o → b ≠ P → H' b = some o
  tab : TabI P pos qual H'
theorem Gr.refl {P : Addr} {pos : Pos} {qual : Str} {H : Hp} (h : TabI P pos qual H) : Gr P pos qual H H := ⟨fun _ _ e _ => e, h⟩
theorem Gr.trans {P : Addr} {pos : Pos} {qual : Str} {H H1 H2 : Hp} (a : Gr P pos qual H H1) (b : Gr P pos qual H1 H2) : Gr P pos qual H H2 := ⟨fun c o e n => b.keep c o (a.keep c o e n) n, b.tab⟩
theorem TabI.same {P : Addr} {pos : Pos} {qual : Str} {H H' : Hp} (h : TabI P pos qual H) (s : Same H H') : TabI P pos qual H' := by
  rcases h with h | ⟨c', h1, h2⟩
  · exact .inl (s _ _ h)
  · exact .inr ⟨c', s _ _ h1, s _ _ h2⟩
theorem Gr.same {P : Addr} {pos : Pos} {qual : Str} {H H1 H2 : Hp} (a : Gr P pos qual H H1) (b : Same H1 H2) : Gr P pos qual H H2 := ⟨fun c o e n => b c o (a.keep c o e n), a.tab.same b⟩
theorem codeRec_ext {h : Heap} {c' : Addr} {qual : Str} (x : h.CodeRec (.ref c') qual) : ∃ o, h.get? c' = some o := by
  obtain ⟨c, oc, vs, t, e, ho, _⟩ := x
  cases e
  exact ⟨oc, ho⟩
theorem codeRec_at {h1 h2 : Heap} {c' : Addr} {qual : Str} (x : h1.CodeRec (.ref c') qual) (k : ∀ o, h1.get? c' = some o → h2.get? c' = some o) : h2.CodeRec (.ref c') qual := by
  obtain ⟨c, oc, vs, t, e, ho, r⟩ := x
  cases e
  exact ⟨c', oc, vs, t, rfl, k _ ho, r⟩
theorem lam_make {X : Cx} {pins : List (Addr × Obj)} {σ : St} {H : Hp} {s : Shared} {qual0 : Str} {params : Arguments} {body : Expr} {scope : Scope} {cl : List (Str × Addr)} {c P : Addr} {pos : Pos} {E : Value → Shared → Prop} {Q : Value → Shared → Prop}
    (I : Inv X pins σ H s) (hbm : BM X.mg X.base) (hcl : closureFor scope X.env = pure cl) (hcode : X.env.code = .ref c) (hC : PySem.W.codeHdIn X.K c P = true) (hq0 : X.env.qual ++ "<lambda>" = qual0) (hdef : defaultsOf params X.env = ([], []))
    (htab : TabI P pos qual0 H)
    (k : ∀ f c' pm ctv s' H', Inv X pins σ H' s' → Gr P pos qual0 H H' → s'.heap.get? f = some (PySem.W.kla_obj "<lambda>" qual0 params body scope cl pm c' ctv) → s.heap.objs.size ≤ f → H' f = none → H' c' = some (TabE qual0 c') → Q (.ref f) s') :
    wpAny (model X.prog X.w) X.A (eval (.Lambda params body scope pos) X.env) Q E s := by
  refine PySem.W.kla_eval hdef ?_
  rw [hq0]
  have hgs : s.heap.Ns mainGlobals X.mg := I.mod.glob.keeps I.bk
  have Ch : PySem.W.CodeHd s.heap c P := PySem.W.codeHd_of_K I.kIn hC
  obtain ⟨bm, ob, b1, b2, b3, b4, b5, b6⟩ := hbm
  have b3' := I.bk _ _ b3
  have bmH : H bm = none := (I.bs _ _ b3).2
  have hbG : bm ≠ mainGlobals := fun q => by
    obtain ⟨o, es, ep, e, hd, _⟩ := hgs
    rw [q, e] at b3'; cases b3'; rw [hd] at b6; cases b6
  rcases htab with h0 | ⟨c', h1, h2⟩
  · have hP : s.heap.get? P = some (PySem.W.tabObj #[]) := I.hok P _ h0
    have hgP : mainGlobals ≠ P := fun q => by
      obtain ⟨o, es, ep, e, hd, _⟩ := hgs
      rw [q, hP] at e; cases e; cases hd
    have hbP : bm ≠ P := fun q => by rw [q, h0] at bmH; cases bmH
    refine PySem.W.kla_makeFunction (mg := X.mg) hcl I.ok.glob hgs hcode Ch hP trivial rfl hgP ⟨bm, ob, b1, b2, hbG, hbP, b3', b4, b5, b6⟩ fun c' ctv h' tk hx hge hlt hrec htb => ?_
    have hrec' : (h'.push (PySem.W.kla_obj "<lambda>" qual0 params body scope cl ((X.mg "__name__").getD .none) c' ctv)).CodeRec (.ref c') qual0 := codeRec_at hrec fun o e => Heap.get?_push_of_some _ e
    have hPc : P ≠ c' := fun z => Nat.lt_irrefl _ (Nat.lt_of_lt_of_le (Heap.lt_size hP) (by rw [z]; exact hge))
    have kp : ∀ b o, b ≠ P → s.heap.get? b = some o → (h'.push (PySem.W.kla_obj "<lambda>" qual0 params body scope cl ((X.mg "__name__").getD .none) c' ctv)).get? b = some o := fun b o hb e => Heap.get?_push_of_some _ (hx b o hb e)
    have hc0 : H c' = none := I.hok.fresh hge
    have nP : ∀ b, H b = none → b ≠ P := fun b n z => by rw [z, h0] at n; cases n
    have hN : ∀ b u, H b = some u → b ≠ c' := fun b u e => ne_of_none e hc0
    have htb' : (h'.push (PySem.W.kla_obj "<lambda>" qual0 params body scope cl ((X.mg "__name__").getD .none) c' ctv)).get? P = some (PySem.W.tabObj #[rawInt pos.line, rawInt pos.col, .ref c']) := by
      have := Heap.get?_push_of_some (PySem.W.kla_obj "<lambda>" qual0 params body scope cl ((X.mg "__name__").getD .none) c' ctv) htb
      simpa using this
    have hsz : s.heap.objs.size ≤ h'.objs.size := Nat.le_of_lt (Nat.lt_of_le_of_lt hge hlt)
    refine k _ c' _ ctv _ (upd (upd H P (.tbl #[rawInt pos.line, rawInt pos.col, .ref c'])) c' (TabE qual0 c')) (I.un (t' := tk) ?_ ?_) ⟨fun b o e n => ?_, .inr ⟨c', ?_, upd_same⟩⟩ (Heap.get?_push_size _ rfl) hsz ?_ upd_same
    · exact {
        keep := fun b o e n _ _ => kp b o (nP b n) e
        slot := fun b o e n _ _ => ⟨o.slots, kp b o (nP b n) e⟩
        free := fun b o e n _ => by rw [upd_ne (Nat.ne_of_lt (Nat.lt_of_lt_of_le (Heap.lt_size e) hge)), upd_ne (nP b n)]; exact n
        there := fun b o e _ => by
          by_cases hb : b = P
          · exact ⟨_, hb ▸ htb'⟩
          · exact ⟨o, kp b o hb e⟩
        tups := fun b xs e => by rw [upd_ne (hN b _ e), upd_ne (fun z => by rw [z, h0] at e; cases e)]; exact e
        frzs := fun b o u e => by rw [upd_ne (hN b _ e), upd_ne (fun z => by rw [z, h0] at e; cases e)]; exact e
        tbls := fun b ps e => by
          by_cases hb : b = P
          · subst hb
            rw [h0] at e
            cases e
            exact ⟨#[rawInt pos.line, rawInt pos.col, .ref c'], by rw [upd_ne hPc, upd_same]; simp⟩
          · exact ⟨#[], by rw [upd_ne (hN b _ e), upd_ne hb, e]; simp⟩ }
    · intro b u e
      by_cases hb : b = c'
      · subst hb
        rw [upd_same] at e
        cases e
        exact ⟨hrec', codeRec_ext hrec', fun h1 h2 x q => codeRec_at x fun o e => q o e⟩
      · rw [upd_ne hb] at e
        by_cases hb2 : b = P
        · subst hb2
          rw [upd_same] at e
          cases e
          exact htb'
        · rw [upd_ne hb2] at e
          refine (I.hok b u e).stay (fun d v hd q => kp d v ?_ q) (fun d q => by rw [upd_ne (hN d _ q), upd_ne (fun z => by rw [z, h0] at q; cases q)]; exact q) fun d xs q => by rw [upd_ne (hN d _ q), upd_ne (fun z => by rw [z, h0] at q; cases q)]; exact q
          rcases hd with z | z
          · rw [z]; exact hb2
          · intro z2
            rw [z2, h0] at z
            cases z
    · rw [upd_ne (hN b o e), upd_ne n]; exact e
    · rw [upd_ne hPc, upd_same]
    · rw [upd_ne (Nat.ne_of_gt hlt), upd_ne (Nat.ne_of_gt (Nat.lt_of_lt_of_le (Heap.lt_size hP) hsz))]
      exact I.hok.fresh hsz
  · have hP : s.heap.get? P = some (PySem.W.tabObj #[rawInt pos.line, rawInt pos.col, .ref c']) := I.hok P _ h1
    have hbP : bm ≠ P := fun q => by rw [q, h1] at bmH; cases bmH
    refine PySem.W.kla_makeFunctionHit (mg := X.mg) hcl I.ok.glob hgs hcode Ch hP trivial (cv := .ref c') (by simp [codeAmong, rawInt]) ⟨bm, ob, b1, b2, hbG, hbP, b3', b4, b5, b6⟩ fun ctv h' tk hk hsz => ?_
    exact k _ c' _ ctv _ H (I.kept (t' := tk) fun b o e => Heap.get?_push_of_some _ (hk b o e)) (.refl (.inr ⟨c', h1, h2⟩)) (Heap.get?_push_size _ rfl) hsz (I.hok.fresh hsz) h2
end L2
set_option Elab.async false
set_option linter.all false
set_option maxRecDepth 100000
set_option maxHeartbeats 4000000
namespace L2
open PySem PySem.Spec PyProof.Rows
theorem FpOk.pin1 {X : Cx} {pins pins' : List (Addr × Obj)} {σ : St} {H : Hp} {s : Shared} {b : Addr} {o : Obj} (f : FpOk X pins H b) (_ : Inv X pins' σ H s) (e : s.heap.get? b = some o) (d : ∀ v, o.data ≠ .cell v) :
    s.heap.get? (b, o).1 = some (b, o).2 ∧ H (b, o).1 = none ∧ (b, o).1 ≠ X.env.locals ∧ (b, o).1 ∉ X.fs ∧ ∀ v, (b, o).2.data ≠ .cell v := ⟨e, f.1, f.2.1, f.2.2.1, d⟩
section
variable {X : Cx} {pins : List (Addr × Obj)} {σ : St} {H : Hp} {s : Shared} {A : Around} {E : Value → Shared → Prop} {a kS : Addr} {b : Bool} {vs : List Value} {kz : List Int} {keys : Array Value} {e e1 : Nat} {P : PySem.Fin → Shared → Prop}
theorem Inv.own1 {c : Addr} {h' : Heap} (I : Inv X pins σ H s) (f : FpOk X pins H c) (hs : Heap.SameBut c s.heap h') : Inv X pins σ H { s with heap := h' } :=
  I.turned (t' := s.toks) (it := c) (fun d o hd q => (hs.2 d hd).trans q) f.1 f.2.1 f.2.2.2.1 f.2.2.2.2.1 f.2.2.2.2.2
theorem Inv.track {D : Addr} {o : HO} (I : Inv X pins σ H s) (f : FpOk X pins H D) (hD : X.s₀.heap.objs.size ≤ D) (new : ObjOk X.prog X.w (upd H D o) s.heap D o) : Inv X pins σ (upd H D o) s := by
  have ne : ∀ c u, H c = some u → c ≠ D := fun c u q => ne_of_none q f.1
  refine ⟨I.ok, I.os, I.bare, ⟨I.base.keep, I.base.slot, fun c ob q n hx => ?_, I.base.there, fun c xs q => ?_, fun c ob u q => ?_, fun c ps q => ?_⟩, I.loc, I.cell, ?_, fun x c q => ?_, fun p hp => ?_, fun c u q => ?_, I.len⟩
  · rw [upd_ne (Nat.ne_of_lt (Nat.lt_of_lt_of_le (Heap.lt_size q) hD))]
    exact I.base.free c ob q n hx
  · have z := I.base.tups c xs q
    rw [upd_ne (ne c _ z)]; exact z
  · have z := I.base.frzs c ob u q
    rw [upd_ne (ne c _ z)]; exact z
  · obtain ⟨more, z⟩ := I.base.tbls c ps q
    exact ⟨more, by rw [upd_ne (ne c _ z)]; exact z⟩
  · rw [upd_ne (Ne.symm f.2.1)]; exact I.free
  · rw [upd_ne (f.2.2.2.2.1 x c q)]; exact I.freeC x c q
  · obtain ⟨p1, p2, p3⟩ := I.pin p hp
    exact ⟨p1, by rw [upd_ne (f.2.2.2.2.2 p hp)]; exact p2, p3⟩
  · by_cases hc : c = D
    · subst hc; rw [upd_same] at q; cases q; exact new
    · rw [upd_ne hc] at q
      exact (I.hok c u q).stay (fun _ _ _ r => r) (fun d r => by rw [upd_ne (ne d _ r)]; exact r) fun d xs r => by rw [upd_ne (ne d _ r)]; exact r
def KeyTurn (X : Cx) (pins : List (Addr × Obj)) (σ : St) (H : Hp) (A : Around) (f v : Value) (k : Int) : Prop :=
  ∀ s' pl, Inv X (pins ++ pl) σ H s' → wpAny (model X.prog X.w) A (call f [v]) (fun u s'' => RelV (.int k) u ∧ Inv X (pins ++ pl) σ H s'') (fun _ _ => False) s'
end
end L2
set_option Elab.async false
set_option linter.all false
set_option maxRecDepth 100000
set_option maxHeartbeats 4000000
namespace L2
open PySem PySem.Spec PyProof.Rows
theorem closAt_of {X : Cx} {scope : Scope} {cl : List (Str × Addr)} {fr : List Str} {bs : List (Option Nat)} {pins : List (Addr × Obj)} {σ : St} {H : Hp} {s : Shared} {fv : List V} (B : Blk X scope cl fr bs) (I : Inv X pins σ H s) (hfv : bst bs σ = fv.map some) : ClosAt cl H s.heap fr fv := by
  refine ⟨?_, fun i y v e1 e2 => ?_⟩
  · have h := congrArg List.length hfv
    unfold bst at h
    rw [List.length_map, List.length_map, B.bs.len] at h
    exact h
  · have e3 : (bst bs σ)[i]? = some (some v) := by rw [hfv, List.getElem?_map, e2]; rfl
    unfold bst at e3
    rw [List.getElem?_map] at e3
    cases q : bs[i]? with
    | none => rw [q] at e3; cases e3
    | some o =>
      rw [q] at e3
      cases o with
      | none => cases e3
      | some j =>
        obtain ⟨x, y1, y2, y3, y4⟩ := B.bs.get q
        rw [e1] at y1
        cases y1
        have e4 : σ[j]? = some (some v) := by
          have z : (σ[j]?).join = some v := Option.some.inj e3
          cases w : σ[j]? with
          | none => rw [w] at z; cases z
          | some o => rw [w] at z; rw [show o = some v from z]
        obtain ⟨mx, hmx, lx⟩ := I.loc
        obtain ⟨u, r, l⟩ := lx j y v y2 e4 (.inr (.inl y3))
        rcases l with ⟨l1, _⟩ | ⟨_, c, l2, l3⟩
        · have l1' : X.env.scope.names.lookup y = some .local := l1
          rw [y3] at l1'
          cases l1'
        · obtain ⟨c', h'⟩ := Option.isSome_iff_exists.mp (B.cl2 (y, .free) (PySem.mem_of_lookup y4) rfl)
          have h2 := B.c1 h'
          rw [l2] at h2
          cases h2
          exact ⟨u, c, r, h', l3⟩
theorem Gr.sqL {K : PySem.W.Frag} {P : Addr} {pos : Pos} {qual : Str} {H H' : Hp} {l : Addr} {xs : List V} (g : Gr P pos qual H H') (t : TabI P pos qual H) (h : SqL K H l xs) : SqL K H' l xs := by
  have np : ∀ o, H l = some o → (∀ ps, o ≠ .tbl ps) → l ≠ P := fun o e n z => by
    subst z
    rcases t with t | ⟨c', t, _⟩
    · rw [e] at t; exact n _ (Option.some.inj t)
    · rw [e] at t; exact n _ (Option.some.inj t)
  rcases h with (h | ⟨o, h⟩) | h
  · exact .inl (.inl (g.keep _ _ h (np _ h fun ps z => nomatch z)))
  · exact .inl (.inr ⟨o, g.keep _ _ h (np _ h fun ps z => nomatch z)⟩)
  · exact .inr h
def only1 (R : V → Hp → Prop) : List V → Hp → Prop
  | [x], H => R x H
  | _, _ => False
theorem only1_of {R : V → Hp → Prop} : ∀ {vs : List V} {H : Hp}, only1 R vs H → ∃ x, vs = [x] ∧ R x H
  | [x], _, h => ⟨x, rfl, h⟩
  | [], _, h => h.elim
  | _ :: _ :: _, _, h => h.elim
end L2
set_option Elab.async false
set_option linter.all false
set_option maxRecDepth 100000
set_option maxHeartbeats 4000000
namespace L2
open PySem PySem.Spec PyProof.Rows
section
variable {X : Cx}
theorem call_isinst : CallR X (.builtin "isinstance") (fun xs H Q => ∃ x n t b, xs = [x, .ty n] ∧ TyOf X.K H x t ∧ PySem.W.kitOne X.K t (.type n) = some b ∧ Q (.bl b) H) := by
  intro pins s σ H xs us Q I r h
  obtain ⟨x, n, t, b, rfl, ty, e, q⟩ := h
  obtain ⟨u, w', rfl, rx, ry⟩ := vals2 r
  cases (show w' = Value.type n from ry)
  exact isinst_ok I rx ty e fun tk => ⟨.bl b, H, I.tok tk, rfl, q⟩
theorem Inv.big {pins : List (Addr × Obj)} {σ : St} {H : Hp} {s : Shared} (I : Inv X pins σ H s) : sysModules < s.heap.objs.size := by
  have h : mainGlobals < s.heap.objs.size := (I.mod.glob.keeps I.bk).lt
  exact Nat.lt_trans (by decide) h
def rCatT0 (K : PySem.W.Frag) : R2 := fun x y H Q => ∃ a b ys, x = .ref a ∧ y = .ref b ∧ SqT K H a [] ∧ SqT K H b ys ∧ Q (.ref b) H
theorem op_catT0 : OpR X (binaryOp .Add) (rCatT0 X.K) := by
  intro pins s σ H x y v u Q I rx ry h
  obtain ⟨a, b, ys, rfl, rfl, ha, hb, q⟩ := h
  cases rx
  cases ry
  obtain ⟨its, r1, p1, _⟩ := I.tuple ha
  obtain ⟨its2, r2, p2, _⟩ := I.tuple hb
  have e0 : its = [] := r1.nil_iff.mpr rfl
  subst e0
  obtain ⟨⟨cls, dd, data, sl⟩, ho, hc, n, hd⟩ := id p1
  obtain ⟨⟨cls2, dd2, data2, sl2⟩, ho2, hc2, n2, hd2⟩ := id p2
  simp only at hc hd hc2 hd2
  subst hc hd hc2 hd2
  exact concat_meets ⟨_, ho, rfl⟩ ⟨_, ho2, rfl⟩ noFill_tuple_add seq_tuple_add PySem.F.slot_tuple_add PySem.F.entry_tuple_add (PySem.F.args_tuple_add_2 _ _)
      (tuple_addW0 a b _ its2.toArray n n2 dd dd2 sl sl2 (by simp)) ⟨ho, ho2, ⟨.ref b, H, I, rfl, q⟩⟩
theorem noFill_tuple_mul : fillsNumberSlot (.type "tuple") "mul" = pure false :=
  PySem.fillsNumberSlot_seq (id := "tuple.__mul__") (r := some (.builtin "tuple.__rmul__")) F.slot_tuple_mul.lookup (by decide +kernel) F.slot_tuple_rmul.lookup (by decide +kernel)
theorem repeat_tuple : seqRepeat? (.type "tuple") = pure (some (.builtin "tuple.__mul__")) := by
  unfold seqRepeat?
  rw [PySem.seqSlot_of (T := "tuple") (name := "__mul__") (id := "tuple.__mul__") F.slot_tuple_mul.lookup (by decide +kernel), PySem.seqSlot_of (T := "tuple") (name := "__rmul__") (id := "tuple.__rmul__") F.slot_tuple_rmul.lookup (by decide +kernel)]
  rfl
theorem int_rmul_tuple (a : Int) (t : Tok) (l : Addr) (items : Array Value) (n : Nat) (dd : Option Addr) (sl : Array (Option Value)) :
    Meets (Builtin.«int.__rmul__» ⟨[.int a t, .ref l], []⟩) (fun _ R s => s.heap.get? l = some { cls := .type "tuple", dict := dd, data := .seq items n, slots := sl } ∧ R (.ok (.ret Value.notImplemented)) s) :=
  .of_wp fun prog w A R s h => by obtain ⟨hp, g, d, tk, os⟩ := s; obtain ⟨hl, h⟩ := h; wp_walk; exact ⟨_, rfl, h⟩
theorem tuple_mulW (l : Addr) (items : Array Value) (n : Nat) (dd : Option Addr) (sl : Array (Option Value)) (x : Int) (u : Tok) (hc0 : ¬ (decide (x < -(2 ^ 63)) || decide (x ≥ 2 ^ 63)) = true) (hc1 : ¬ (items.isEmpty || x == 1) = true) (hc2 : ¬ (decide (x ≤ 0) || items.isEmpty) = true)
    (hc3 : ¬ (items.size : Int) * x > (2 ^ 63 - 1) / 8) (hc4 : ¬ Builtin.Tuple.tupleTooMany ((items.size : Int) * x) = true) (hs0 : (List.foldl (fun x1 x2 => x1 ++ x2) #[] (List.replicate x.toNat items)).size ≤ sizeLine) :
    Meets (Builtin.«tuple.__mul__» ⟨[.ref l, .int x u], []⟩) (fun _ R s => s.heap.get? l = some { cls := .type "tuple", dict := dd, data := .seq items n, slots := sl } ∧ R (.ok (.ret (Value.ref s.heap.objs.size))) { s with heap := s.heap.push { cls := Value.type "tuple", data := Data.seq (List.foldl (fun x1 x2 => x1 ++ x2) #[] (List.replicate x.toNat items)) }, toks := s.toks }) :=
  .of_wp fun prog w A R s h => by
    obtain ⟨hp, g, d, tk, os⟩ := s; obtain ⟨hl, h⟩ := h; have f1 := AutoSeq1.idx_int; have f2 := AutoSeq1.sub_tuple_tuple; have f3 := AutoSeq1.sub_list_list; have f4 := AutoSeq1.sub_tuple_list; have f5 := AutoSeq1.sub_list_tuple
    wp_walk using wpAny_loadPart' hl
    rw [if_neg hc0]
    wp_walk using wpAny_loadPart' hl
    rw [if_neg hc3]
    wp_walk using wpAny_loadPart' hl
    exact ⟨_, rfl, h⟩
def rRepT (K : PySem.W.Frag) : R2 := fun x y H Q => ∃ l k xs, x = .ref l ∧ y = .int k ∧ SqT K H l xs ∧ 1 < k ∧ k < 2 ^ 62 ∧ xs ≠ [] ∧ xs.length * k.toNat ≤ sizeLine ∧ ∀ p, H p = none → Q (.ref p) (upd H p (.tup (List.replicate k.toNat xs).flatten))
theorem op_repT : OpR X (binaryOp .Mult) (rRepT X.K) := by
  intro pins s σ H x y v u Q I rx ry h
  obtain ⟨l, k, xs, rfl, rfl, hS, h1, h2, hne, hz, q⟩ := h
  cases (show v = Value.ref l from rx)
  obtain ⟨t, rfl⟩ := ry
  obtain ⟨its, r, pl, _⟩ := I.tuple hS
  have hl := r.length
  obtain ⟨⟨cls, dd, data, sl⟩, ho, hc, n, hd⟩ := id pl
  simp only at hc hd
  subst hc hd
  have hsz : its.toArray.size * k.toNat ≤ sizeLine := by rw [List.size_toArray, ← hl]; exact hz
  have hne' : its.toArray.isEmpty = false := by
    cases its with
    | nil => exact absurd (r.nil_iff.mp rfl) hne
    | cons a b => rfl
  have hpos : 0 < its.toArray.size := by
    cases its with
    | nil => exact absurd (r.nil_iff.mp rfl) hne
    | cons a b => simp
  have hnew : List.foldl (fun x1 x2 => x1 ++ x2) #[] (List.replicate k.toNat its.toArray) = (List.replicate k.toNat its).flatten.toArray := by
    have := foldl_rep its k.toNat []
    rw [List.nil_append] at this
    exact this
  have hk : ((its.toArray.size : Int)) * k = ((its.toArray.size * k.toNat : Nat) : Int) := by
    rw [Int.natCast_mul]
    congr 1
    omega
  have hline : (sizeLine : Nat) < 2 ^ 60 := by rw [sizeLine_eq]; decide
  have lenR : (List.replicate k.toNat its).flatten.length ≤ sizeLine := by rw [len_rep, Nat.mul_comm]; simpa using hsz
  refine wpAny_binaryOp_repeat_ref (T := "tuple") (U := "int") (by decide) ⟨_, ho, rfl⟩ (fun s' => typeIs_int s' k t) noFill_tuple_mul F.fills_int_mul F.slot_int_rmul repeat_tuple F.slot_int_index.lookup
    (call_meets F.slot_int_rmul (typeIs_int s k t) F.entry_int_rmul (F.args_int_rmul_2 _ _) (int_rmul_tuple k t l its.toArray n dd sl)
      ⟨ho, rfl, ⟨_, ho, rfl⟩, call_meets F.slot_tuple_mul ⟨_, ho, rfl⟩ F.entry_tuple_mul (F.args_tuple_mul_2 _ _) (tuple_mulW l its.toArray n dd sl k t ?c0 ?c1 ?c2 ?c3 ?c4 ?c5) ⟨ho, ?_⟩⟩)
  case c0 => simp; omega
  case c1 => rw [hne']; simp; omega
  case c2 => rw [hne']; simp; omega
  case c3 => rw [hk]; omega
  case c4 => rw [hk]; exact fun z => absurd (of_decide_eq_true z) (Int.not_lt.mpr (Int.ofNat_le.mpr hsz))
  case c5 => rw [hnew, List.size_toArray]; exact lenR
  rw [hnew]
  refine ⟨.ref _, _, I.laid (t' := s.toks) (o := .tup (List.replicate k.toNat xs).flatten) (fun b ob q => Heap.get?_push_of_some _ q) (Nat.le_refl _) ?_, rfl, q _ I.fresh⟩
  exact ⟨by rw [len_rep, Nat.mul_comm]; exact hz, _, r.rep k.toNat, IsTup.new _ _⟩
end
end L2
set_option Elab.async false
set_option linter.all false
set_option maxRecDepth 100000
set_option maxHeartbeats 4000000
namespace L2
open PySem PySem.Spec PyProof.Rows
theorem same_add {H : Hp} {d : Addr} {o : HO} (h : H d = Option.none) : Same H (upd H d o) := fun b u e => by rw [upd_ne (ne_of_none e h)]; exact e
theorem le1000 {n : Nat} (h : Nat.ble n 1000 = true) : n ≤ sizeLine := by
  have := Nat.le_of_ble_eq_true h
  rw [sizeLine_eq]; omega
theorem leMil {n : Nat} (h : n ≤ 100000) : n ≤ sizeLine := by rw [sizeLine_eq]; omega
def plainE : Expr → Bool
  | .Starred _ _ => false
  | _ => true
theorem star_cons {e : Expr} {es : List Expr} {env : Env} (h : plainE e = true) : starEach (e :: es) env = (false, eval e env) :: starEach es env := by
  cases e <;> first | rfl | cases h
theorem star_any {env : Env} {pos : Pos} : ∀ {es : List Expr}, es.all plainE = true → (backTo pos (starEach es env)).any (·.1) = false
  | [], _ => rfl
  | e :: es, h => by
    have h1 : plainE e = true ∧ es.all plainE = true := by simpa [List.all_cons, Bool.and_eq_true] using h
    rw [star_cons h1.1]
    have ih := star_any (env := env) (pos := pos) h1.2
    unfold backTo at ih ⊢
    rw [List.map_cons, List.any_cons, ih]
    rfl
theorem pa_c {X : Cx} {e : Expr} {es : List Expr} {te : TE} {t : TA} (ha : PE X e te) (hr : PA X es t) (hs : plainE e = true := by rfl) : PA X (e :: es) (tCons te t) := pa_cons ha hr (star_cons hs)
structure FnE (P : Program) (w : World) (K : PySem.W.Frag) (mg : Str → Option Value) (base : Heap) (x : Str) (ps : List Str) (k : Nat) (sp : Sp) : Prop where
  ex : ∃ f fd, FnOk P w K mg base CX0 k f fd ps sp ∧ mg x = some (.ref f) ∧ PySem.W.keepIn K (.ref f) = true ∧ Binds K fd ps []
theorem pe_fn {X : Cx} {x : Str} {ps : List Str} {k : Nat} {sp : Sp} {e : Expr} {es : List Expr} {t : TA} {p pos : Pos} (F : FnE X.prog X.w X.K X.mg X.base x ps k sp) (hr : Room k X.A) (ha : PA X (e :: es) t) (hg : Gl X x := by rfl)
    (hdb : (x == ("__debug__" : Str)) = false := by decide) (he : starEach (e :: es) X.env = (false, eval e X.env) :: starEach es X.env := by rfl) (hpl : (backTo pos (starEach es X.env)).any (·.1) = false := by rfl) :
    PE X (.Call (.Name x p) (e :: es) [] pos) (tCall sp [] E0 t) :=
  let ⟨_, _, a, b, c, d⟩ := F.ex; pe_call a hr hg b c d .nil pass0 ha hdb he hpl
theorem pe_fc {X : Cx} {x : Str} {ps : List Str} {k : Nat} {sp : Sp} {e : Expr} {es : List Expr} {t : TA} {p pos : Pos} (F : FnE X.prog X.w X.K X.mg X.base x ps k sp) (hr : Room k X.A) (ha : PA X (e :: es) t) (hg : Gl X x := by rfl)
    (hdb : (x == ("__debug__" : Str)) = false := by decide) (he : plainE e = true := by rfl) (hpl : es.all plainE = true := by rfl) : PE X (.Call (.Name x p) (e :: es) [] pos) (tCall sp [] E0 t) :=
  pe_fn F hr ha hg hdb (star_cons he) (star_any hpl)
def tTupS (t : TA) : TE := fun σ H Q => t σ H fun xs H1 => Nat.ble xs.length 1000 = true ∧ ∀ p H', Same H1 H' → H' p = some (.tup xs) → Q (.ref p) H'
def tLstS (t : TA) : TE := fun σ H Q => t σ H fun xs H1 => Nat.ble xs.length 1000 = true ∧ ∀ p H', Same H1 H' → H' p = some (.lst xs) → Q (.ref p) H'
section
variable {X : Cx} {e : Expr} {es : List Expr} {te : TE} {t : TA} {pos : Pos}
theorem OpR.weak {f : Value → Value → Sem Value} {r r' : R2} (h : OpR X f r) (k : ∀ x y H Q, r' x y H Q → r x y H Q) : OpR X f r' := fun pins s σ H x y v u Q I rx ry q => h pins s σ H x y v u Q I rx ry (k _ _ _ _ q)
theorem CallR.weak {f : Value} {r r' : List V → Hp → VK → Prop} (h : CallR X f r) (k : ∀ xs H Q, r' xs H Q → r xs H Q) : CallR X f r' := fun pins s σ H xs us Q I r q => h pins s σ H xs us Q I r (k _ _ _ q)
theorem pe_tupS {x1} (h : PA X es t) : PE X (.Tuple es x1 pos) (tTupS t) := by
  intro pins s σ H Q I hq
  refine wpAny_Tuple_spliced (thn (h pos pins s σ H _ I hq) fun us s1 ⟨xs, H1, I1, r, z, q⟩ => ⟨by rw [← r.length]; exact le1000 z, ?_⟩)
  have hf : H1 s1.heap.objs.size = none := I1.hok.fresh (Nat.le_refl _)
  refine ⟨.ref s1.heap.objs.size, upd H1 s1.heap.objs.size (.tup xs), I1.laid (t' := s1.toks) (fun b u e => Heap.get?_push_of_some _ e) (Nat.le_refl _) ?_, rfl, q _ _ (same_add hf) upd_same⟩
  exact ⟨le1000 z, us, r, ⟨_, Heap.get?_push_size _ rfl, rfl, _, rfl⟩⟩
theorem pe_lstS (h : PA X es t) : PE X (.List es pos) (tLstS t) := by
  intro pins s σ H Q I hq
  refine wpAny_List_spliced (thn (h pos pins s σ H _ I hq) fun us s1 ⟨xs, H1, I1, r, z, q⟩ => ⟨by rw [← r.length]; exact le1000 z, ?_⟩)
  have hf : H1 s1.heap.objs.size = none := I1.hok.fresh (Nat.le_refl _)
  refine ⟨.ref s1.heap.objs.size, upd H1 s1.heap.objs.size (.lst xs), I1.laid (t' := s1.toks) (fun b u e => Heap.get?_push_of_some _ e) (Nat.le_refl _) ?_, rfl, q _ _ (same_add hf) upd_same⟩
  exact ⟨le1000 z, us, 0, r, Heap.get?_push_size _ rfl⟩
def rCatTS : R2 := fun x y H Q => ∃ a b xs ys, x = .ref a ∧ y = .ref b ∧ H a = some (.tup xs) ∧ H b = some (.tup ys) ∧ xs.length + ys.length ≤ 100000 ∧ ∀ p H', Same H H' → H' p = some (.tup (xs ++ ys)) → Q (.ref p) H'
theorem op_catTS : OpR X (binaryOp .Add) rCatTS := by
  intro pins s σ H x y v u Q I rx ry h
  obtain ⟨a, b, xs, ys, rfl, rfl, ha, hb, hz, q⟩ := h
  by_cases h0 : xs = []
  · subst h0
    exact op_catT0 pins s σ H _ _ v u Q I rx ry ⟨a, b, ys, rfl, rfl, SqT.of ha, SqT.of hb, q b H (Same.refl H) hb⟩
  · refine op_catT pins s σ H _ _ v u Q I rx ry ⟨a, b, xs, ys, rfl, rfl, SqT.of ha, SqT.of hb, h0, leMil hz, fun z => ?_, fun _ p hp => q p _ (same_add hp) upd_same⟩
    subst z
    exact q a H (Same.refl H) (by rw [List.append_nil]; exact ha)
def rCatLS : R2 := fun x y H Q => ∃ a b xs ys, x = .ref a ∧ y = .ref b ∧ H a = some (.lst xs) ∧ H b = some (.lst ys) ∧ xs.length + ys.length ≤ 100000 ∧ ∀ p H', Same H H' → H' p = some (.lst (xs ++ ys)) → Q (.ref p) H'
theorem op_catLS : OpR X (binaryOp .Add) rCatLS := op_cat.weak fun x y H Q ⟨a, b, xs, ys, e1, e2, h1, h2, z, q⟩ => ⟨a, b, xs, ys, e1, e2, h1, h2, leMil z, fun p hp => q p _ (same_add hp) upd_same⟩
def rRepTS : R2 := fun x y H Q => ∃ l k xs, x = .ref l ∧ y = .int k ∧ H l = some (.tup xs) ∧ 1 < k ∧ k < 100000 ∧ xs ≠ [] ∧ xs.length * k.toNat ≤ 100000 ∧ ∀ p H', Same H H' → H' p = some (.tup (List.replicate k.toNat xs).flatten) → Q (.ref p) H'
theorem op_repTS : OpR X (binaryOp .Mult) rRepTS := op_repT.weak fun x y H Q ⟨l, k, xs, e1, e2, h, k1, k2, ne, z, q⟩ => ⟨l, k, xs, e1, e2, SqT.of h, k1, by omega, ne, leMil z, fun p hp => q p _ (same_add hp) upd_same⟩
theorem call_tuple_ofS : CallR X (.type "tuple") (fun xs H Q => ∃ p ys, xs = [.ref p] ∧ (H p = some (.lst ys) ∨ H p = some (.tup ys)) ∧ ∀ l H', Same H H' → H' l = some (.tup ys) → Q (.ref l) H') :=
  call_tuple_of.weak fun xs H Q ⟨p, ys, e, h, q⟩ => ⟨p, ys, e, by
    rcases h with h | h
    · exact .inl ⟨SqL.of h, fun l hl => q l _ (same_add hl) upd_same⟩
    · exact .inr ⟨SqT.of h, q p H (Same.refl H) h⟩⟩
end
def MonoE (t : TE) : Prop := ∀ σ H (Q Q' : VK), (∀ v H', Q v H' → Q' v H') → t σ H Q → t σ H Q'
theorem mono_var (i : Nat) : MonoE (tVar i) := fun σ H Q Q' k ⟨v, e, q⟩ => ⟨v, e, k _ _ q⟩
theorem mono_c (v : V) : MonoE (tC v) := fun σ H Q Q' k q => k _ _ q
theorem mono_ixT {K : PySem.W.Frag} {ta tb : TE} (ha : MonoE ta) (hb : MonoE tb) : MonoE (tOp (rIxT K) ta tb) := fun σ H Q Q' k q => ha σ H _ _ (fun x H1 q => hb σ H1 _ _ (fun y H2 ⟨p, xs, i, v, e1, e2, h, a, q⟩ => ⟨p, xs, i, v, e1, e2, h, a, k _ _ q⟩) q) q
def tLCT (K : PySem.W.Frag) (bs : List (Option Nat)) (tl : TE) (g : TG) (tt : TT) (te : TE) : TE := fun σ H Q => tl σ H fun x H1 => ∃ a xs, x = .ref a ∧ SqT K H1 a xs ∧ xs.length ≤ 100000 ∧ ∃ Pv : Nat → List V → St → Hp → Prop, Pv 0 [] (bst bs σ) H1 ∧
  (∀ i ys σ H, i ≤ xs.length → Pv i ys σ H → SqT K H a xs ∧ ys.length ≤ i) ∧
  (∀ i x ys σ H, xs[i]? = some x → Pv i ys σ H → g x σ H fun σ3 H3 => tt σ3 H3 fun b H4 => if b = true then te σ3 H4 fun v H5 => Pv (i + 1) (ys ++ [v]) σ3 H5 else Pv (i + 1) ys σ3 H4) ∧
  ∀ ys σ H, Pv xs.length ys σ H → ∀ p H', Same H H' → H' p = some (.lst ys) → Q (.ref p) H'
theorem pe_lcT {X : Cx} {scope : Scope} {cl : List (Str × Addr)} {N : List Str} {bs : List (Option Nat)} {tg iter elt : Expr} {ifs : List Expr} {pos : Pos} {tl : TE} {g : TG} {tt : TT} {te : TE} (B : Blk X scope cl N bs) (hc : X.calm = true)
    (hl : PE X iter tl) (hm : MonoE tl) (hg : ∀ C fp s H, PG (cxBlk X scope cl C N fp s H) tg g) (ht : ∀ C fp s H, PTs (cxBlk X scope cl C N fp s H) ifs tt) (he : ∀ C fp s H, PE (cxBlk X scope cl C N fp s H) elt te)
    (hs : ∀ x, foldedSetIterable iter X.env x = pure x := by intro _; rfl) : PE X (.ListComp elt [⟨tg, iter, ifs, 0⟩] scope pos) (tLCT X.K bs tl g tt te) := by
  intro pins s σ H Q I h
  refine @pe_lc X scope cl N bs tg iter elt ifs pos (iTup X.K tl) g tt te B hc (@pi_tup X _ _ _ hl) hg ht he hs pins s σ H Q I ?_
  refine hm σ H _ _ (fun x H1 h => ?_) h
  obtain ⟨a, xs, e, hS, hz, Pv, p0, pl, ps, pd⟩ := h
  exact ⟨a, e, ⟨xs, hS⟩, lc_tup (Q := Q) Pv (leMil hz) p0 pl ps fun ys σ H hp p hpn => pd ys σ H hp p _ (same_add hpn) upd_same⟩
end L2
set_option Elab.async false
set_option linter.all false
set_option maxRecDepth 100000
set_option maxHeartbeats 4000000
namespace L2
open PySem PySem.Spec PyProof.Rows
def MonoA (t : TA) : Prop := ∀ σ H (Q Q' : List V → Hp → Prop), (∀ v H', Q v H' → Q' v H') → t σ H Q → t σ H Q'
theorem monoA_nil : MonoA tNil := fun σ H Q Q' k q => k _ _ q
theorem monoA_cons {te : TE} {tr : TA} (ha : MonoE te) (hr : MonoA tr) : MonoA (tCons te tr) := fun σ H Q Q' k q => ha σ H _ _ (fun x H1 q => hr σ H1 _ _ (fun xs H2 q => k _ _ q) q) q
def rLen (K : PySem.W.Frag) : List V → Hp → VK → Prop := fun xs H Q => ∃ p ys, xs = [.ref p] ∧ (SqL K H p ys ∨ SqT K H p ys) ∧ Q (.int ys.length) H
theorem call_lenK {X : Cx} {K : PySem.W.Frag} (hK : X.K = K) : CallR X (.builtin "len") (rLen K) := by
  subst hK
  exact call_len_seq
theorem lc_range {lo : Int} {n : Nat} {g : TG} {tt : TT} {te : TE} {σ : St} {H : Hp} {Q : VK} (Pv : Nat → List V → St → Hp → Prop) (hz : n ≤ sizeLine) (h0 : Pv 0 [] σ H) (hl : ∀ i ys σ H, i ≤ n → Pv i ys σ H → ys.length ≤ i)
    (hs : ∀ i ys σ H, i < n → Pv i ys σ H → g (.int (lo + i)) σ H fun σ3 H3 => tt σ3 H3 fun b H4 => if b = true then te σ3 H4 fun v H5 => Pv (i + 1) (ys ++ [v]) σ3 H5 else Pv (i + 1) ys σ3 H4)
    (hd : ∀ ys σ H, Pv n ys σ H → ∀ p, H p = none → Q (.ref p) (upd H p (.lst ys))) :
    ∃ W : Nat → Nat → List V → St → Hp → Prop, (∃ m, W 0 m [] σ H) ∧ ∀ i m ys σ' H', W i m ys σ' H' →
      ((Itr lo n).stop i H' ∧ ys.length ≤ sizeLine ∧ ∀ p, H' p = none → Q (.ref p) (upd H' p (.lst ys))) ∨
      ((Itr lo n).go i H' ∧ ys.length < sizeLine ∧ ∃ N : List V → St → Hp → Prop, (∀ zs σ2 H2, N zs σ2 H2 → ∃ m', m' < m ∧ W (i + 1) m' zs σ2 H2) ∧ ∀ x H2, (Itr lo n).yld i H' x H2 → g x σ' H2 fun σ3 H3 => tt σ3 H3 fun b H4 =>
        if b = true then te σ3 H4 fun v H5 => N (ys ++ [v]) σ3 H5 else N ys σ3 H4) := by
  refine ⟨fun i m ys σ H => m = n - i ∧ i ≤ n ∧ Pv i ys σ H, ⟨n, by simp, Nat.zero_le _, h0⟩, ?_⟩
  rintro i m ys σ H ⟨rfl, hi, p⟩
  have ql := hl i ys σ H hi p
  by_cases hlt : i < n
  · refine .inr ⟨hlt, by omega, Pv (i + 1), fun zs σ' H' p' => ⟨n - (i + 1), by omega, rfl, hlt, p'⟩, fun x H' y => ?_⟩
    obtain ⟨e, y⟩ := y
    subst e
    subst y
    exact hs i ys σ _ hlt p
  · have e : i = n := by omega
    subst e
    exact .inl ⟨Nat.le_refl _, by omega, hd ys σ H p⟩
def tLCR (bs : List (Option Nat)) (ta : TA) (g : TG) (tt : TT) (te : TE) : TE := fun σ H Q => ta σ H fun vs H1 => ∃ n : Nat, vs = [.int (n : Int)] ∧ n ≤ 100000 ∧ ∃ Pv : Nat → List V → St → Hp → Prop, Pv 0 [] (bst bs σ) H1 ∧
  (∀ i ys σ H, i ≤ n → Pv i ys σ H → ys.length ≤ i) ∧
  (∀ i ys σ H, i < n → Pv i ys σ H → g (.int (0 + i)) σ H fun σ3 H3 => tt σ3 H3 fun b H4 => if b = true then te σ3 H4 fun v H5 => Pv (i + 1) (ys ++ [v]) σ3 H5 else Pv (i + 1) ys σ3 H4) ∧
  ∀ ys σ H, Pv n ys σ H → ∀ p H', Same H H' → H' p = some (.lst ys) → Q (.ref p) H'
theorem pe_lcR {X : Cx} {scope : Scope} {cl : List (Str × Addr)} {N : List Str} {bs : List (Option Nat)} {tg a elt : Expr} {ifs : List Expr} {p pos' pos : Pos} {ta : TA} {g : TG} {tt : TT} {te : TE} (B : Blk X scope cl N bs) (hc : X.calm = true)
    (hgl : Gl X "range") (hmr : X.mg "range" = none) (ha : PA X [a] ta) (hm : MonoA ta) (hpl : plainE a = true) (hg : ∀ C fp s H, PG (cxBlk X scope cl C N fp s H) tg g) (ht : ∀ C fp s H, PTs (cxBlk X scope cl C N fp s H) ifs tt) (he : ∀ C fp s H, PE (cxBlk X scope cl C N fp s H) elt te)
    (hs : ∀ x, foldedSetIterable (.Call (.Name "range" p) [a] [] pos') X.env x = pure x := by intro _; rfl) : PE X (.ListComp elt [⟨tg, .Call (.Name "range" p) [a] [] pos', ifs, 0⟩] scope pos) (tLCR bs ta g tt te) := by
  intro pins s σ H Q I h
  refine @pe_lc X scope cl N bs tg _ elt ifs pos (iRng1 ta) g tt te B hc (@pi_range1 X tg a ta p pos' hgl hmr ha (star_cons hpl)) hg ht he hs pins s σ H Q I ?_
  refine hm σ H _ _ (fun vs H1 h => ?_) h
  obtain ⟨n, e, hz, Pv, p0, pl, ps, pd⟩ := h
  refine ⟨(n : Int), e, by omega, by omega, ?_⟩
  rw [Int.toNat_natCast]
  exact lc_range (Q := Q) Pv (leMil hz) p0 pl ps fun ys σ H hp p hpn => pd ys σ H hp p _ (same_add hpn) upd_same
end L2
set_option Elab.async false
set_option linter.all false
set_option maxRecDepth 100000
set_option maxHeartbeats 4000000
namespace PySem
open Sem (wp)
open AutoSeq1 (wpAny_loadPart')
section
variable {prog : Program} {w : World} {A : Around} {E : Value → Shared → Prop} {s : Shared}
theorem nextOf_tuple_item {it l : Addr} {i : Nat} {items} {x : Value} {Q : Value → Shared → Prop} (hit : s.heap.IsTupleIter it l i)
    (hl : s.heap.IsTuple l items) (hx : items[i]? = some x)
    (hQ : ∀ h', h'.IsTupleIter it l (i + 1) → Heap.SameBut it s.heap h' → Q x { s with heap := h' }) :
    wpAny (model prog w) A (Builtin.SmallTypes.nextOf (.ref it)) Q E s := by
  obtain ⟨o, ho, hc, hd⟩ := id hit
  obtain ⟨ol, hol, _, nl, hdl⟩ := hl
  unfold Builtin.SmallTypes.nextOf
  refine wpAny_bind (wpAny_callSpecial?_slot (name := Str.ofString "__next__") hit.typeIs F.slot_tuple_iterator_next
    (wpAny_call_entry F.slot_tuple_iterator_next hit.typeIs F.entry_tuple_iterator_next ?_ (F.args_tuple_iterator_next_1 _)))
  show wpAny _ _ (field (.ref it) 0 >>= _) _ _ s
  refine wpAny_bind (wpAny_field ho hd (x := .ref l) rfl ?_)
  show wpAny _ _ (if (Value.ref l == Value.none) = true then _ else _) _ _ s
  rw [if_neg (show ¬ ((Value.ref l == Value.none) = true) from Bool.false_ne_true)]
  show wpAny _ _ (field (.ref it) 1 >>= _) _ _ s
  refine wpAny_bind (wpAny_field ho hd (x := .int i 0) rfl ?_)
  show wpAny _ _ (seqItems? (.ref l) >>= _) _ _ s
  refine wpAny_bind (wpAny_seqItems hol hdl ?_)
  simp only [Int.toNat_natCast, hx]
  refine wpAny_bind (wpAny_setField ho hd (by simp) (wpAny_pure ⟨x, rfl, wpAny_pure (hQ _ ?_ (Heap.SameBut.update ..))⟩))
  exact ⟨_, Heap.get?_update_self _ ho (Obj.isFreed_of_fields (Obj.data_mapFields hd _)), (Obj.cls_mapFields ..).trans hc, by
    rw [Obj.data_mapFields hd]; simp [rawInt]⟩
theorem nextOf_tuple_end {it l : Addr} {i : Nat} {items} {Q : Value → Shared → Prop} (hh : A.handled = none)
    (hit : s.heap.IsTupleIter it l i) (hl : s.heap.IsTuple l items) (hx : items[i]? = none)
    (hE : ∀ h' e, Heap.ExtBut it s.heap h' → (∃ o, h'.get? e = some o ∧ o.cls = .type "StopIteration") → E (.ref e) { s with heap := h' }) :
    wpAny (model prog w) A (Builtin.SmallTypes.nextOf (.ref it)) Q E s := by
  obtain ⟨o, ho, hc, hd⟩ := id hit
  obtain ⟨ol, hol, _, nl, hdl⟩ := hl
  unfold Builtin.SmallTypes.nextOf
  refine wpAny_bind (wpAny_callSpecial?_slot (name := Str.ofString "__next__") hit.typeIs F.slot_tuple_iterator_next
    (wpAny_call_entry F.slot_tuple_iterator_next hit.typeIs F.entry_tuple_iterator_next ?_ (F.args_tuple_iterator_next_1 _)))
  show wpAny _ _ (field (.ref it) 0 >>= _) _ _ s
  refine wpAny_bind (wpAny_field ho hd (x := .ref l) rfl ?_)
  show wpAny _ _ (if (Value.ref l == Value.none) = true then _ else _) _ _ s
  rw [if_neg (show ¬ ((Value.ref l == Value.none) = true) from Bool.false_ne_true)]
  show wpAny _ _ (field (.ref it) 1 >>= _) _ _ s
  refine wpAny_bind (wpAny_field ho hd (x := .int i 0) rfl ?_)
  show wpAny _ _ (seqItems? (.ref l) >>= _) _ _ s
  refine wpAny_bind (wpAny_seqItems hol hdl ?_)
  simp only [Int.toNat_natCast, hx]
  refine wpAny_bind (wpAny_rule (wpAny_bind (wpAny_setField ho hd (by simp) ?_)))
  show wpAny _ _ (newExc (.type "StopIteration") [] >>= _) _ _ _
  refine wpAny_bind ?_
  simp only [newExc, newTuple]
  refine wpAny_bind (wpAny_newObj_type ?_ (by size_fits))
  refine wpAny_bind (m := firstArgMember _ _) (wpAny_of_eq (a := Value.none) (by first | rfl | (simp only [firstArgMember]; rfl)) ?_)
  refine wpAny_newObj_type ?_ (by size_fits)
  simp only [raiseNew]
  refine wpAny_bind (wpAny_handled ?_)
  first | rw [show A.in1.handled = none from hh] | rw [hh]
  refine wpAny_bind (wpAny_pure (wpAny_throw ?_))
  exact hE _ _ (((Heap.SameBut.update ..).extBut.push _).push _) ⟨_, Heap.get?_push_size _ rfl, rfl⟩
end
theorem Draws.tupleD {prog : Program} {w : World} {A : Around} (hh : A.handled = none) (it l : Addr) (hne : l ≠ it) (items : Array Value) :
    Draws prog w A it [it, l] items.size (fun i v => items[i]? = some v) (fun i h => h.IsTupleIter it l i ∧ h.IsTuple l items) where
  live := fun _ _ st => let ⟨o, ho, _⟩ := st.1; ⟨o, ho⟩
  frame := fun _ _ _ st hk => ⟨let ⟨o, ho, r⟩ := st.1; ⟨o, hk it (by simp) o ho, r⟩, let ⟨o, ho, r⟩ := st.2; ⟨o, hk l (by simp) o ho, r⟩⟩
  item := fun i s Q E hi st hQ => by
    refine nextOf_tuple_item st.1 st.2 (x := items[i]) (by simp [hi]) fun h' hit' hs' => ?_
    exact hQ _ h' s.toks (by simp [hi]) ⟨hit', st.2.extBut hs'.extBut hne⟩ hs'
  done := fun s Q E st hE => nextOf_tuple_end hh st.1 st.2 (by simp) hE
theorem meets_enumerate_newT (l : Addr) (items : Array Value) (n : Nat) (dct : Option Addr) (sl : Array (Option Value)) :
    Meets (Builtin.«enumerate.__new__» ⟨[.type "enumerate", .ref l], []⟩) (fun _ R s => s.heap.get? l = some { cls := .type "tuple", dict := dct, data := .seq items n, slots := sl } ∧
      R (.ok (.ret (.ref (s.heap.push { cls := .type "tuple_iterator", data := .fields #[.ref l, .int 0 0] }).objs.size)))
        { s with heap := (s.heap.push { cls := .type "tuple_iterator", data := .fields #[.ref l, .int 0 0] }).push { cls := .type "enumerate", data := .fields #[.none, .bool false, .ref s.heap.objs.size, rawInt 0, .none, .none] } }) :=
  .of_wp fun prog w A R s h => by
    obtain ⟨hp, g, d, tk, os⟩ := s; obtain ⟨hl, h⟩ := h
    have hsub := sub_enumerate
    have hL : Heap.IsTuple (Shared.heap ⟨hp, g, d, tk, os⟩) l items := ⟨_, hl, rfl, n, rfl⟩
    wp_walk using wpAny_loadPart' hl
    refine wpAny_stack_any fun st => wpAny_pure ?_
    split
    · rename_i c _ _ _ _ _
      cases (c == Value.type "enumerate")
      · wp_walk using wpAny_loadPart' hl, wpAny_pyIter_tuple hL
        exact ⟨_, rfl, h⟩
      · wp_walk using wpAny_loadPart' hl, wpAny_pyIter_tuple hL
        exact ⟨_, rfl, h⟩
    · wp_walk using wpAny_loadPart' hl, wpAny_pyIter_tuple hL
      exact ⟨_, rfl, h⟩
section
variable {prog : Program} {w : World} {A : Around} {E : Value → Shared → Prop} {s : Shared}
theorem call_enumerate_tuple {l : Addr} {items : Array Value} {Q : Value → Shared → Prop} (hL : s.heap.IsTuple l items)
    (h : ∀ h', IsEnum h' (s.heap.objs.size + 1) s.heap.objs.size 0 .none → h'.IsTupleIter s.heap.objs.size l 0 → h'.objs.size = s.heap.objs.size + 2 →
      (∀ b o, s.heap.get? b = some o → h'.get? b = some o) → Q (.ref (s.heap.objs.size + 1)) { s with heap := h' }) :
    wpAny (model prog w) A (call (.type "enumerate") [.ref l]) Q E s := by
  obtain ⟨⟨c, dct, dt, sl⟩, hl, hc, n, hd⟩ := hL
  replace hc : c = .type "tuple" := hc
  replace hd : dt = .seq items n := hd
  subst hc hd
  refine callType_new F.called_enumerate (by decide) (F.typeCall_enumerate_1 _) (F.newCall_enumerate_1 _) (fun obj => F.args_object_init_2 obj _) F.entry_enumerate_new
    (meets_enumerate_newT l items n dct sl) ⟨hl, ?_⟩
  have hz : (s.heap.push { cls := .type "tuple_iterator", data := .fields #[.ref l, .int 0 0] }).objs.size = s.heap.objs.size + 1 := Heap.size_push ..
  show _ ∧ _
  rw [hz]
  have he : IsEnum ((s.heap.push { cls := .type "tuple_iterator", data := .fields #[.ref l, .int 0 0] }).push
      { cls := .type "enumerate", data := .fields #[.none, .bool false, .ref s.heap.objs.size, rawInt 0, .none, .none] }) (s.heap.objs.size + 1) s.heap.objs.size 0 .none := by
    have := Heap.get?_push_size (s.heap.push { cls := .type "tuple_iterator", data := .fields #[.ref l, .int 0 0] })
      (o := { cls := .type "enumerate", data := .fields #[.none, .bool false, .ref s.heap.objs.size, rawInt 0, .none, .none] }) rfl
    rw [hz] at this; exact this
  refine ⟨⟨_, he, rfl⟩, h _ he ⟨_, Heap.get?_push_of_some _ (Heap.get?_push_size _ rfl), rfl, rfl⟩ (by rw [Heap.size_push, hz]) fun b o x => Heap.get?_push_of_some _ (Heap.get?_push_of_some _ x)⟩
end
end PySem
namespace L2
open PySem PySem.Spec PyProof.Rows
theorem Inv.turnedL {X : Cx} {pins : List (Addr × Obj)} {σ : St} {H : Hp} {s : Shared} {h' : Heap} {t' : Nat} {ch : List Addr} (I : Inv X pins σ H s) (k : ∀ b o, b ∉ ch → s.heap.get? b = some o → h'.get? b = some o) (hf : ∀ b ∈ ch, FpOk X pins H b) : Inv X pins σ H { s with heap := h', toks := t' } := by
  have nit : ∀ b u, H b = some u → b ∉ ch := fun b u e z => by rw [(hf b z).1] at e; cases e
  refine I.step (g' := s.gens) (d' := s.drawn) (ch := ch) (fun b hb => ⟨(hf b hb).2.2.2.1, (hf b hb).2.1, (hf b hb).2.2.2.2.1, (hf b hb).2.2.2.2.2⟩) (fun b o _ _ hc e _ => k b o hc e) (fun b o _ _ hc e _ => ⟨o.slots, k b o hc e⟩) (fun _ _ _ _ n => n)
    (fun b o hc e => ⟨o, k b o hc e⟩) (fun _ _ e => e) (fun _ _ _ e => e) (fun b ps e => ⟨#[], by rw [e]; simp⟩) (fun m hm => ?_) (fun b u e => ?_) I.bare
  · obtain ⟨o, es, ep, ho, r⟩ := hm
    exact ⟨o, es, ep, k _ o (fun z => (hf _ z).2.1 rfl) ho, r⟩
  · refine (I.hok b u e).stay (fun c v hc q => k c v ?_ q) (fun _ q => q) fun _ _ q => q
    rcases hc with z | z
    · rw [z]; exact nit b u e
    · exact nit c _ z
def Ite (K : PySem.W.Frag) (a : Addr) : It :=
  ⟨fun i H => ∃ xs x, SqT K H a xs ∧ xs[i]? = some x, fun i H x H' => ∃ T y, x = .ref T ∧ H T = none ∧ H' = upd H T (.tup [.int i, y]) ∧ ∀ xs, SqT K H a xs → xs[i]? = some y, fun i H => ∃ xs, SqT K H a xs ∧ xs.length ≤ i⟩
theorem turn_enum {P : Program} {w : World} {K : PySem.W.Frag} {elts : List Expr} {x1 : Nat} {pos : Pos} (a e it : Addr) (hne : e ≠ it) :
    Turn P w K (.Tuple elts x1 pos) (Ite K a) [e, it] e (fun i h => (∃ old, IsEnum h e it i old) ∧ h.IsTupleIter it a i) where
  mem := by simp
  obj := fun i h st b hb => by
    obtain ⟨⟨old, he⟩, o, ho, hc, hd⟩ := st
    rcases List.mem_cons.mp hb with rfl | hb
    · exact ⟨_, he, fun v z => nomatch z⟩
    · rw [List.mem_singleton.mp hb]
      exact ⟨o, ho, fun v z => by rw [hd] at z; cases z⟩
  keep := fun i h h' st k => by
    obtain ⟨⟨old, he⟩, o, ho, r⟩ := st
    exact ⟨⟨old, k e (by simp) _ he⟩, o, k it (by simp) o ho, r⟩
  item := by
    intro X hP hw hK hc i pins s σ H E I hf st hg
    subst hP hw hK
    obtain ⟨xs, x, hq, hx⟩ := hg
    obtain ⟨its, rv, p, hz⟩ := I.tuple hq
    obtain ⟨u, hu, ru⟩ := rv.get hx
    obtain ⟨⟨old, he⟩, hit⟩ := st
    have fe := hf e (by simp)
    have fi := hf it (by simp)
    have ht : s.heap.IsTuple a its.toArray := p
    have hlt : i < its.toArray.size := by
      rw [List.size_toArray]
      exact (List.getElem?_eq_some_iff.mp hu).1
    have hai : a ≠ it := fun z => by
      obtain ⟨o, ho, h1, _⟩ := ht
      obtain ⟨o', ho', h2, _⟩ := hit
      rw [z, ho'] at ho
      cases ho
      rw [h2] at h1
      exact absurd (Value.type.inj h1) (by decide)
    have hae : e ≠ a := fun z => by
      obtain ⟨o, ho, h1, _⟩ := ht
      have he' : s.heap.get? e = _ := he
      rw [z, ho] at he'
      cases he'
      exact absurd (Value.type.inj h1) (by decide)
    refine wpAny_pyNext_enum_itemD (Draws.tupleD (by simp [I.ok.hd hc]) it a hai its.toArray) he ⟨hit, ht⟩ hlt hne (by simp only [List.mem_cons, List.not_mem_nil, or_false, not_or]; exact ⟨hne, hae⟩) fun x' h' tk hP ho hs' hT hsz hk => ?_
    have ex : x' = u := by
      rw [List.getElem?_toArray] at hP
      rw [hu] at hP
      exact (Option.some.inj hP).symm
    subst ex
    have I1 : Inv X pins σ H { s with heap := h', toks := tk + 1 } := I.turnedL (ch := [e, it]) (fun b o hb q => hk b o (fun z => hb (by simp [z])) (fun z => hb (by simp [z])) q) fun b hb => hf b hb
    refine ⟨_, rfl, wpAny_letOwnedTupleGo_enum (s := { s with heap := h', toks := tk + 1 }) ho fun h2 he2 sb => ?_⟩
    have I2 : Inv X pins σ H { s with heap := h2, toks := tk + 1 } := Inv.turnedL (s := { s with heap := h', toks := tk + 1 }) (t' := tk + 1) (ch := [e]) I1 (fun b o hb q => (sb.2 b (fun z => hb (by simp [z]))).trans q) fun b hb => by rw [List.mem_singleton.mp hb]; exact fe
    have hn : H s.heap.objs.size = none := I.hok.fresh (Nat.le_refl _)
    have fT : FpOk X pins H s.heap.objs.size := I.fpOk (Nat.le_refl _) hn
    have heT : s.heap.objs.size ≠ e := Nat.ne_of_gt (Heap.lt_size he)
    have hT2 : h2.get? s.heap.objs.size = some { cls := .type "tuple", data := .seq #[.int i tk, x'] } := (sb.2 _ heT).trans hT
    refine ⟨.ref s.heap.objs.size, upd H s.heap.objs.size (.tup [.int i, x]), I2.track fT I.sz ?_, rfl, ⟨_, x, rfl, hn, rfl, fun ys hy => by rw [I.tuple_inj hy hq]; exact hx⟩, ⟨⟨x', by simpa using he2⟩, ?_⟩, fun b hb => ?_⟩
    · exact ⟨le1000 rfl, [.int i tk, x'], .cons ⟨tk, rfl⟩ (.cons ru .nil), ⟨_, hT2, rfl, _, rfl⟩⟩
    · obtain ⟨o, ho', r⟩ := hs'.1
      exact ⟨o, (sb.2 _ (Ne.symm hne)).trans ho', r⟩
    · rcases List.mem_cons.mp hb with rfl | hb
      · rw [upd_ne (Ne.symm heT)]; exact fe.1
      · rw [List.mem_singleton.mp hb, upd_ne]
        · exact fi.1
        · obtain ⟨o, ho', _⟩ := hit
          exact Nat.ne_of_lt (Heap.lt_size ho')
  done := by
    intro X hP hw hK hc i pins s σ H E I hf st hg
    subst hP hw hK
    obtain ⟨xs, hq, hx⟩ := hg
    obtain ⟨its, rv, p, hz⟩ := I.tuple hq
    obtain ⟨⟨old, he⟩, hit⟩ := st
    have ht : s.heap.IsTuple a its.toArray := p
    have hl := rv.length
    have hT : s.TypeIs (.ref e) "enumerate" := ⟨_, he, rfl⟩
    unfold pyNext
    refine wpAny_bind (wpAny_attempt (wpAny_callSpecial?_slot (name := Str.ofString "__next__") hT F.slot_enumerate_next
      (wpAny_call_entry F.slot_enumerate_next hT F.entry_enumerate_next ?_ (F.args_enumerate_next_1 _))))
    show wpAny _ _ (field (.ref e) 2 >>= _) _ _ _
    refine wpAny_bind (wpAny_field he rfl (x := .ref it) rfl ?_)
    refine wpAny_bind (nextOf_tuple_end (by simp [I.ok.hd hc]) hit ht (by simp; omega) fun h' x he' hx' => ?_)
    obtain ⟨o, ho, hc'⟩ := hx'
    refine wpAny_bind (wpAny_isInstance (T := "StopIteration") (b := true) ⟨o, ho, hc'⟩ isSubtype_stop ?_)
    exact wpAny_pure ⟨rfl, I.turnedL (t' := s.toks) (ch := [it]) (fun b o hb q => he' b o (fun z => hb (by simp [z])) q) fun b hb => by rw [List.mem_singleton.mp hb]; exact hf it (by simp)⟩
  self := fun _ _ _ _ _ st h => by
    obtain ⟨⟨old, he⟩, _⟩ := st
    exact wpAny_pyIter_enum he h
def iEnum (K : PySem.W.Frag) (ta : TA) : TI := fun σ H R => ta σ H fun vs H1 => ∃ a, vs = [.ref a] ∧ (∃ xs, SqT K H1 a xs) ∧ R (Ite K a) H1
theorem boot_enum : bootBuiltins "enumerate" = some (.type "enumerate") := by decide +kernel
theorem pi_enum {X : Cx} {elts : List Expr} {x1 : Nat} {tpos : Pos} {a : Expr} {ta : TA} {p pos : Pos} (hg : Gl X "enumerate") (hm : X.mg "enumerate" = none) (ha : PA X [a] ta) (hpl : plainE a = true) : PI X (.Tuple elts x1 tpos) (.Call (.Name "enumerate" p) [a] [] pos) (iEnum X.K ta) := by
  intro pins s σ H R I h
  refine Call_ (ld_blt I hg hm boot_enum (PyProof.Rows.callWith_type1 (thn (ha pos pins s σ H _ I h) fun us s1 ⟨vs, H1, I1, r1, q1⟩ => ?_) (star_cons hpl) rfl))
  obtain ⟨b, e, ⟨xs, hq⟩, q⟩ := q1
  subst e
  obtain ⟨u, rfl, ru⟩ := vals1 r1
  cases (show u = Value.ref b from ru)
  obtain ⟨its, rv, pt, hz⟩ := I1.tuple hq
  refine call_enumerate_tuple (show s1.heap.IsTuple b its.toArray from pt) fun h' he hi hsz hk => ?_
  have I2 : Inv X pins σ H1 { s1 with heap := h' } := I1.kept (t' := s1.toks) hk
  refine wpAny_pyIter_enum (s := { s1 with heap := h' }) he ?_
  refine ⟨s1.heap.objs.size + 1, [s1.heap.objs.size + 1, s1.heap.objs.size], _, _, H1, rfl, I2, turn_enum b _ _ (Nat.succ_ne_self _), ⟨⟨.none, he⟩, hi⟩, fun c hc => ?_, q⟩
  rcases List.mem_cons.mp hc with rfl | hc
  · exact I1.fpOk (Nat.le_succ _) (I1.hok.fresh (Nat.le_succ _))
  · rw [List.mem_singleton.mp hc]
    exact I1.fpOk (Nat.le_refl _) (I1.hok.fresh (Nat.le_refl _))
def tLCE (K : PySem.W.Frag) (bs : List (Option Nat)) (ta : TA) (g : TG) (tt : TT) (te : TE) : TE := fun σ H Q => ta σ H fun vs H1 => ∃ a xs, vs = [.ref a] ∧ SqT K H1 a xs ∧ xs.length ≤ 100000 ∧ ∃ Pv : Nat → List V → St → Hp → Prop, Pv 0 [] (bst bs σ) H1 ∧
  (∀ i ys σ H, i ≤ xs.length → Pv i ys σ H → SqT K H a xs ∧ ys.length ≤ i) ∧
  (∀ i x ys σ H, xs[i]? = some x → Pv i ys σ H → ∀ T H2, Same H H2 → H2 T = some (.tup [.int i, x]) → g (.ref T) σ H2 fun σ3 H3 => tt σ3 H3 fun b H4 => if b = true then te σ3 H4 fun v H5 => Pv (i + 1) (ys ++ [v]) σ3 H5 else Pv (i + 1) ys σ3 H4) ∧
  ∀ ys σ H, Pv xs.length ys σ H → ∀ p H', Same H H' → H' p = some (.lst ys) → Q (.ref p) H'
theorem pe_lcE {X : Cx} {scope : Scope} {cl : List (Str × Addr)} {N : List Str} {bs : List (Option Nat)} {elts : List Expr} {x1 : Nat} {tpos : Pos} {a elt : Expr} {ifs : List Expr} {p pos' pos : Pos} {ta : TA} {g : TG} {tt : TT} {te : TE} (B : Blk X scope cl N bs) (hc : X.calm = true)
    (hgl : Gl X "enumerate") (hmr : X.mg "enumerate" = none) (ha : PA X [a] ta) (hm : MonoA ta) (hpl : plainE a = true) (hg : ∀ C fp s H, PG (cxBlk X scope cl C N fp s H) (.Tuple elts x1 tpos) g) (ht : ∀ C fp s H, PTs (cxBlk X scope cl C N fp s H) ifs tt) (he : ∀ C fp s H, PE (cxBlk X scope cl C N fp s H) elt te)
    (hs : ∀ x, foldedSetIterable (.Call (.Name "enumerate" p) [a] [] pos') X.env x = pure x := by intro _; rfl) : PE X (.ListComp elt [⟨.Tuple elts x1 tpos, .Call (.Name "enumerate" p) [a] [] pos', ifs, 0⟩] scope pos) (tLCE X.K bs ta g tt te) := by
  intro pins s σ H Q I h
  refine @pe_lc X scope cl N bs _ _ elt ifs pos (iEnum X.K ta) g tt te B hc (@pi_enum X elts x1 tpos a ta p pos' hgl hmr ha hpl) hg ht he hs pins s σ H Q I ?_
  refine hm σ H _ _ (fun vs H1 h => ?_) h
  obtain ⟨a, xs, e, hS, hz, Pv, p0, pl, ps, pd⟩ := h
  refine ⟨a, e, ⟨xs, hS⟩, fun i m ys σ H => m = xs.length - i ∧ i ≤ xs.length ∧ Pv i ys σ H, ⟨xs.length, by simp, Nat.zero_le _, p0⟩, ?_⟩
  rintro i m ys σ H ⟨rfl, hi, pv'⟩
  obtain ⟨q, ql⟩ := pl i ys σ H hi pv'
  have hz' := leMil hz
  by_cases hlt : i < xs.length
  · refine .inr ⟨⟨xs, xs[i], q, by simp [hlt]⟩, by omega, Pv (i + 1), fun zs σ' H' p' => ⟨xs.length - (i + 1), by omega, rfl, hlt, p'⟩, fun x H' y => ?_⟩
    obtain ⟨T, y', rfl, hT, rfl, hy⟩ := y
    exact ps i y' ys σ H (hy xs q) pv' T _ (same_add hT) upd_same
  · have e : i = xs.length := by omega
    subst e
    exact .inl ⟨⟨xs, q, Nat.le_refl _⟩, by omega, fun p hpn => pd ys σ H pv' p _ (same_add hpn) upd_same⟩
end L2
set_option linter.all false
set_option maxRecDepth 100000
namespace SetT
open PySem PySem.SetTable
def adv (mask : Nat) (p : Probe) : Probe :=
  if p.more > 0 then { p with j := p.j + 1, more := p.more - 1 } else
  { p with j := (leap mask p.i p.perturb).1, more := runEnd mask (leap mask p.i p.perturb).1 - (leap mask p.i p.perturb).1, i := (leap mask p.i p.perturb).1, perturb := (leap mask p.i p.perturb).2 }
def st0 (mask : Nat) (b : Nat) : Probe := { j := b % (mask + 1), more := runEnd mask (b % (mask + 1)) - b % (mask + 1), i := b % (mask + 1), perturb := b, dummy := none }
def stk (mask b : Nat) : Nat → Probe
  | 0 => st0 mask b
  | k + 1 => adv mask (stk mask b k)
def pos (mask b k : Nat) : Nat := (stk mask b k).j
def fL (mask x : Nat) : Nat := (x * 5 + 1) % (mask + 1)
def itF (mask x : Nat) : Nat → Nat
  | 0 => x
  | n + 1 => fL mask (itF mask x n)
def orbit (mask x : Nat) : Nat → List Nat
  | 0 => []
  | n + 1 => x :: orbit mask (fL mask x) n
def fullB (mask : Nat) : Bool := (List.range (mask + 1)).all (fun z => (orbit mask 0 (mask + 1)).contains z) && (itF mask 0 (mask + 1) == 0)
theorem full7 : fullB 7 = true := by decide +kernel
theorem full31 : fullB 31 = true := by decide +kernel
theorem full127 : fullB 127 = true := by decide +kernel
theorem full511 : fullB 511 = true := by decide +kernel
def Rise (xs : Array Nat) : Prop := ∀ i j, i < j → j < xs.size → xs.getD i 0 < xs.getD j 0
end SetT
set_option linter.all false
set_option maxRecDepth 100000
namespace SetT
open PySem PySem.SetTable
structure SetOk (t : SetTable) (es : Array (Int × Value)) : Prop where
  full : fullB t.mask = true
  odd : t.mask % 2 = 1
  nod : t.dummies = #[]
  rise : Rise t.place
  le : ∀ (i v : Nat), t.place[i]? = some v → v < t.mask + 1
  size : t.place.size = es.size
  path : ∀ (i v : Nat) (e : Int × Value), t.place[i]? = some v → es[i]? = some e → ∃ k, pos t.mask (bits e.1) k = v ∧ ∀ k', k' < k → ∃ i' : Nat, t.place[i']? = some (pos t.mask (bits e.1) k')
variable {t : SetTable} {es : Array (Int × Value)}
end SetT
set_option linter.all false
set_option maxRecDepth 100000
namespace SetT
open PySem PySem.SetTable
def Occ (owner : Array (Option Nat)) (j : Nat) : Prop := (owner.getD j (some 0)).isNone = false
structure LayOk (mask : Nat) (hs : List Int) (owner : Array (Option Nat)) (k : Nat) : Prop where
  size : owner.size = mask + 1
  cnt : owner.toList.countP (·.isNone) + k = mask + 1
  lt : ∀ (j m : Nat), owner[j]? = some (some m) → m < k
  has : ∀ m, m < k → ∃ j : Nat, owner[j]? = some (some m)
  path : ∀ (j m : Nat) (h : Int), owner[j]? = some (some m) → hs[m]? = some h → ∃ kk, pos mask (bits h) kk = j ∧ ∀ k', k' < kk → Occ owner (pos mask (bits h) k')
end SetT
set_option Elab.async false
set_option linter.all false
set_option maxRecDepth 100000
set_option maxHeartbeats 4000000
namespace SetT
open PySem PySem.SetTable PySem.Spec PyProof.Rows
variable {prog : Program} {w : World} {N : Addr → Prop} {A : Around} {E : Value → Shared → Prop} {s : Shared}
abbrev IsP (prog : Program) (w : World) (h : Heap) (k : List Int) (b : Addr) : Prop := IsTupleKey (intKind prog w) h k b
abbrev hk (prog : Program) (w : World) (k : List Int) : Int := (tupleKind (intKind prog w)).hash k
def EntK (prog : Program) (w : World) (N : Addr → Prop) (h : Heap) (e : Int × Value) (k : List Int) : Prop := ∃ b, (e.2 = .ref b ∧ N b) ∧ IsP prog w h k b ∧ e.1 = hk prog w k
theorem EntK.inj {h : Heap} {e : Int × Value} {k k' : List Int} (x : EntK prog w N h e k) (y : EntK prog w N h e k') : k = k' := by
  obtain ⟨b, ⟨e1, _⟩, p, _⟩ := x
  obtain ⟨b', ⟨e2, _⟩, p', _⟩ := y
  rw [e1] at e2
  cases e2
  exact p.inj p'
theorem fits_of {t : SetTable} {es : Array (Int × Value)} (ok : SetOk t es) (room : es.size < t.mask + 1) : t.fits es.size = true := by
  unfold SetTable.fits SetTable.fill
  rw [ok.size, ok.nod]
  simp
  omega
end SetT
set_option Elab.async false
set_option linter.all false
set_option maxRecDepth 100000
set_option maxHeartbeats 4000000
namespace SetT
open PySem PySem.SetTable PySem.Spec PyProof.Rows
variable {prog : Program} {w : World} {N : Addr → Prop} {A : Around} {E : Value → Shared → Prop} {s : Shared}
end SetT
set_option Elab.async false
set_option linter.all false
set_option maxRecDepth 100000
set_option maxHeartbeats 4000000
namespace SetT
open PySem PySem.SetTable PySem.Spec PyProof.Rows
variable {prog : Program} {w : World} {N : Addr → Prop} {A : Around} {E : Value → Shared → Prop} {s : Shared}
def Mk (m : Nat) : Prop := m = 7 ∨ m = 31 ∨ m = 127 ∨ m = 511
theorem Mk.full {m : Nat} (h : Mk m) : fullB m = true ∧ m % 2 = 1 := by
  rcases h with rfl | rfl | rfl | rfl
  · exact ⟨full7, rfl⟩
  · exact ⟨full31, rfl⟩
  · exact ⟨full127, rfl⟩
  · exact ⟨full511, rfl⟩
def SetP (prog : Program) (w : World) (N : Addr → Prop) (h : Heap) (a : Addr) (ks : List (List Int)) : Prop :=
  ∃ o es ep t, h.get? a = some o ∧ o.ExactSet ∧ o.data = .set es ep t ∧ SetOk t es ∧ Mk t.mask ∧ es.size * 5 < t.mask * 3 ∧ (∀ e ∈ es.toList, ∃ k, EntK prog w N h e k) ∧ (∀ k, k ∈ ks ↔ ∃ e ∈ es.toList, EntK prog w N h e k) ∧ es.size = ks.length ∧ ks.Nodup
end SetT
set_option Elab.async false
set_option linter.all false
set_option maxRecDepth 100000
set_option maxHeartbeats 4000000
namespace SetT
open PySem PySem.SetTable PySem.Spec PyProof.Rows
variable {prog : Program} {w : World} {A : Around} {E : Value → Shared → Prop} {s : Shared}
def SetN (h : Heap) (a : Addr) (n : Nat) : Prop := ∃ o es ep t, h.get? a = some o ∧ o.ExactSet ∧ o.data = .set es ep t ∧ t.fits es.size = true ∧ es.size = n
theorem SetP.num {N : Addr → Prop} {h : Heap} {a : Addr} {ks : List (List Int)} (x : SetP prog w N h a ks) : SetN h a ks.length := by
  obtain ⟨o, es, ep, t, ho, hex, hd, ok, mk, fl, _, _, hsz, _⟩ := x
  exact ⟨o, es, ep, t, ho, hex, hd, fits_of ok (by omega), hsz⟩
end SetT
set_option Elab.async false
set_option linter.all false
set_option maxRecDepth 100000
set_option maxHeartbeats 4000000
namespace L2
open PySem PySem.Spec PyProof.Rows
structure ZSt (h : Heap) (z TI TO i1 i2 a c : Addr) (i : Nat) : Prop where
  zip : IsZip h z TI TO .none
  ti : IsPair h TI (.ref i1) (.ref i2)
  to : ∃ u v, IsPair h TO u v
  it1 : h.IsTupleIter i1 a i
  it2 : h.IsListIter i2 c i
end L2
set_option Elab.async false
set_option linter.all false
set_option maxRecDepth 100000
set_option maxHeartbeats 4000000
set_option Elab.async false
set_option linter.all false
set_option maxRecDepth 100000
set_option maxHeartbeats 4000000
namespace L2
open PySem PySem.Spec PyProof.Rows
theorem ps_lc {X : Cx} {scope : Scope} {cl : List (Str × Addr)} {N : List Str} {bs : List (Option Nat)} {tg iter elt : Expr} {ifs : List Expr} {pos spos px : Pos} {x : Str} {wi : TI} {g gt : TG} {tt : TT} {te : TE} (B : Blk X scope cl N bs) (hc : X.calm = true)
    (hi : PI X tg iter wi) (hg : ∀ C fp s H, PG (cxBlk X scope cl C N fp s H) tg g) (ht : ∀ C fp s H, PTs (cxBlk X scope cl C N fp s H) ifs tt) (he : ∀ C fp s H, PE (cxBlk X scope cl C N fp s H) elt te)
    (hgt : PG X (.Name x px) gt) (hsw : swapsWith (.ListComp elt [⟨tg, iter, ifs, 0⟩] scope pos) (some (.Name x px)) spos.line X.env = pure true)
    (hs : ∀ x, foldedSetIterable iter X.env x = pure x := by intro _; rfl) :
    PS X (.Assign [.Name x px] (.ListComp elt [⟨tg, iter, ifs, 0⟩] scope pos) spos) (tAsg (tLC bs wi g tt te) gt) := by
  intro pins s σ H D I h
  rw [exec_Assign_Name_used _ _ _ _ hsw]
  refine wpAny_bind (wpAny_standAt (wpAny_bind ?_))
  show wpAny _ X.A (do let _ ← comprehension (.ListComp elt [⟨tg, iter, ifs, 0⟩] scope pos) scope X.env _ (newList []) false (eval iter X.env) (some (assign (.Name x px) X.env))) _ _ s
  refine wpAny_bind (wpAny_mono (wpAny_comprehension_free (use := some (assign (.Name x px) X.env)) (Q := fun _ s' => ∃ σ' H', Inv X pins σ' H' s' ∧ D.nx σ' H') rfl hs B.clos B.kind B.names (thn (hi pins s σ H _ I h) fun v s1 h1 => thn h1 fun itv s2 h2 => ?_)) (fun _ s' hq => wpAny_pure (wpAny_pure hq)) fun _ _ e => e)
  obtain ⟨it, fp, tn, J, H2, rfl, I2, T, st2, f2, W, ⟨m0, w0⟩, turn⟩ := h2
  refine wpAny_newObj_type (wpAny_newFunctionEnv B.cell (by intro y hy; simp at hy) (fun h₁ hns₁ hsb₁ => ?_) B.kind)
  dsimp only at hns₁ hsb₁ ⊢
  generalize hG : s2.heap.push { cls := .type "list", dict := none, data := .seq ([] : List Value).toArray } = G at hns₁ hsb₁ ⊢
  have hC : G.objs.size = s2.heap.objs.size + 1 := by rw [← hG, Heap.size_push]
  have hDC : s2.heap.objs.size ≠ G.objs.size := by rw [hC]; exact Nat.ne_of_lt (Nat.lt_succ_self _)
  have hCle : s2.heap.objs.size ≤ G.objs.size := by rw [hC]; exact Nat.le_succ _
  have old : ∀ b o, s2.heap.get? b = some o → h₁.get? b = some o := fun b o e => hsb₁.extBut b o (by rw [hC]; exact Nat.ne_of_lt (Nat.lt_succ_of_lt (Heap.lt_size e))) (Heap.get?_push_of_some _ (hG ▸ Heap.get?_push_of_some _ e))
  have hacc : h₁.get? s2.heap.objs.size = some { cls := .type "list", data := .seq ([] : List Value).toArray 0 } := hsb₁.extBut _ _ hDC (Heap.get?_push_of_some _ (hG ▸ Heap.get?_push_size _ rfl))
  have stat : ∀ {D : Addr} {o : Obj} {H' : Hp}, s2.heap.objs.size ≤ D → (∀ b ∈ fp, H' b = none) → ∀ b ∈ fp, FpOk (cxBlk X scope cl G.objs.size N fp s2 H2) [(D, o)] H' b := fun {D o H'} hD hn b hb => by
    obtain ⟨ob, eb, _⟩ := T.obj _ _ st2 b hb
    obtain ⟨_, f1, f3, f4, f5, _⟩ := f2 b hb
    have ok := B.ok I2 f2 (T.obj _ _ st2) (C := G.objs.size) hCle
    refine ⟨hn b hb, (ok.exf b hb).1, ok.exfs b hb, .inl hb, (ok.exf b hb).2, fun p hp => ?_⟩
    have e : p = (D, o) := by simpa [cxBlk] using hp
    subst e
    exact Nat.ne_of_gt (Nat.lt_of_lt_of_le (Heap.lt_size eb) hD)
  have loop : ∀ s₃ : Shared, s₃ = { s2 with heap := h₁, toks := s2.toks + ([] : List (Str × Value)).length } →
      codeAny (model X.prog X.w) X.A (.compLoop (.ListComp elt [⟨tg, iter, ifs, 0⟩] scope pos) 0 (.ref it) (.ref s2.heap.objs.size) (compEnvC scope cl G.objs.size X.env))
        (compPost (model X.prog X.w) X.A X.xe (some (assign (.Name x px) X.env)) (fun _ s' => ∃ σ' H', Inv X pins σ' H' s' ∧ D.nx σ' H') (.ref s2.heap.objs.size) G.objs.size) s₃ := by
    rintro s₃ rfl
    refine codeAny_compLoop_go (fun n s' => ∃ i ys its k σ' H', Inv (cxBlk X scope cl G.objs.size N fp s2 H2) [(s2.heap.objs.size, { cls := .type "list", data := .seq (List.toArray its) k })] σ' H' s' ∧ Vals ys its ∧ tn i s'.heap ∧ (∀ b ∈ fp, H' b = none) ∧ W i n ys σ' H') ?_ m0
      ⟨0, [], [], 0, bst bs σ, H2, B.inv I2 f2 (T.obj _ _ st2) hCle old hns₁ hacc (Nat.le_refl _) hDC (fun v z => nomatch z), .nil, T.keep _ _ _ st2 fun b _ o e => old b o e, fun b hb => (f2 b hb).1, w0⟩
    rintro n s3 ⟨i, ys, its, k, σ3, H3, I3, rv, st3, fr3, w3⟩
    have pD := I3.pin _ (List.mem_append_right _ (.head _))
    rcases turn i n ys σ3 H3 w3 with ⟨stop, hz, qn⟩ | ⟨go, hz, NN, hNN, step⟩
    · refine thn (T.done (cxBlk X scope cl G.objs.size N fp s2 H2) rfl rfl rfl hc i _ s3 σ3 H3 (fun _ _ => False) I3 (stat (Nat.le_refl _) fr3) st3 stop) fun r s4 ⟨hr, I4⟩ => ?_
      subst hr
      have pD4 := I4.pin _ (List.mem_append_right _ (.head _))
      obtain ⟨m4, hn4, _⟩ := I4.loc
      have hD5 : s4.heap.get? s2.heap.objs.size = some { cls := .type "list", data := .seq (List.toArray its) k } := pD4.1
      have k5 : ∀ b o, b ≠ G.objs.size → s4.heap.get? b = some o → s4.heap.get? b = some o := fun b o hb e => e
      have hC4 : H3 G.objs.size = none := I4.free
      have hok4 : HOk X.prog X.w H3 s4.heap := I4.hok
      have hok5 : HOk X.prog X.w (upd H3 s2.heap.objs.size (.lst ys)) s4.heap := fun b u e => by
        by_cases hb : b = s2.heap.objs.size
        · subst hb
          rw [upd_same] at e
          cases e
          exact ⟨hz, its, k, rv, hD5⟩
        · rw [upd_ne hb] at e
          have nC : ∀ c u', H3 c = some u' → c ≠ G.objs.size := fun c u' q z => by rw [z, hC4] at q; cases q
          have nD : ∀ c u', H3 c = some u' → c ≠ s2.heap.objs.size := fun c u' q z => by rw [z, pD4.2.1] at q; cases q
          refine (hok4 b u e).stay (fun c v hc' q => k5 c v ?_ q) (fun c q => by rw [upd_ne (nD c _ q)]; exact q) fun c xs q => by rw [upd_ne (nD c _ q)]; exact q
          rcases hc' with z | z
          · rw [z]; exact nC b u e
          · exact nC c _ z
      have un4 : Un (frs X.stack) fp H2 H3 s2.heap s4.heap := I4.base
      have neC : ∀ b o, s2.heap.get? b = some o → b ≠ G.objs.size := fun b o e => Nat.ne_of_lt (Nat.lt_of_lt_of_le (Heap.lt_size e) hCle)
      have neD : ∀ b o, s2.heap.get? b = some o → b ≠ s2.heap.objs.size := fun b o e => Nat.ne_of_lt (Heap.lt_size e)
      have un5 : Un (frs X.stack) fp H2 (upd H3 s2.heap.objs.size (.lst ys)) s2.heap s4.heap := {
        keep := fun b o e n hb hx => k5 b o (neC b o e) (un4.keep b o e n hb hx)
        slot := fun b o e n hb hx => let ⟨sl, q⟩ := un4.slot b o e n hb hx; ⟨sl, k5 b _ (neC b o e) q⟩
        free := fun b o e n hx => by rw [upd_ne (neD b o e)]; exact un4.free b o e n hx
        there := fun b o e hx => let ⟨o', q⟩ := un4.there b o e hx; ⟨o', k5 b _ (neC b o e) q⟩
        tups := fun b xs e => by rw [upd_ne (ne_of_none e (I2.hok.fresh (Nat.le_refl _)))]; exact un4.tups b xs e
        frzs := fun b o u e => by rw [upd_ne (ne_of_none e (I2.hok.fresh (Nat.le_refl _)))]; exact un4.frzs b o u e
        tbls := fun b ps e => by rw [upd_ne (ne_of_none e (I2.hok.fresh (Nat.le_refl _)))]; exact un4.tbls b ps e }
      have IE : Inv X pins σ (upd H3 s2.heap.objs.size (.lst ys)) s4 := I2.call' (s' := s4) ((show s4.os = s2.os from I4.os)) un5 hok5 I4.bare (fun b hb => by
        obtain ⟨_, f1, f3, f4, f5, f6⟩ := f2 b hb
        exact ⟨f4, f1, f5, f6⟩)
      have hnC : (upd H3 s2.heap.objs.size (.lst ys)) G.objs.size = none := by rw [upd_ne (Ne.symm hDC)]; exact hC4
      obtain ⟨_, c1, c2, c3, c4, c5⟩ : FpOk X pins (upd H3 s2.heap.objs.size (.lst ys)) G.objs.size := I2.fpOk hCle hnC
      obtain ⟨oC, es4, ep4, hoC, rC⟩ := hn4
      have IP : Inv X (pins ++ [(G.objs.size, oC)]) σ (upd H3 s2.heap.objs.size (.lst ys)) s4 := IE.pins_of fun p hp => by
        rcases List.mem_append.mp hp with z | z
        · exact IE.pin p (List.mem_append_right _ z)
        · rw [List.mem_singleton.mp z]
          exact ⟨hoC, hnC, c1, c2, fun v z => by rw [rC.1] at z; cases z⟩
      refine thn (hgt (pins ++ [(G.objs.size, oC)]) s4 σ _ (.ref s2.heap.objs.size) (.ref s2.heap.objs.size) _ IP rfl (qn _ pD4.2.1)) fun _ s6 ⟨σ6, H6, I6, q6⟩ => ?_
      have pC := I6.pin (G.objs.size, oC) (List.mem_append_right _ (List.mem_append_right _ (.head _)))
      refine ⟨m4, ⟨oC, es4, ep4, pC.1, rC⟩, fun h7 sb7 => ⟨σ6, H6, (I6.unpinned).turned (it := G.objs.size) (t' := s6.toks) (fun b o hb e => sb7.extBut b o hb e) pC.2.1 c1 c3 c4 c5, q6⟩⟩
    · refine thn (T.item (cxBlk X scope cl G.objs.size N fp s2 H2) rfl rfl rfl hc i _ s3 σ3 H3 (fun _ _ => False) I3 (stat (Nat.le_refl _) fr3) st3 go) fun r s4 ⟨u, hr, h4⟩ => ?_
      subst hr
      refine thn h4 fun _ s5 ⟨x, H5, I5, r5, y5, st5, fr5⟩ => ?_
      have I5' := I5.pinned (stat (Nat.le_refl _) fr5) (T.obj _ _ st5)
      refine thn (hg _ _ _ _ _ s5 σ3 H5 x u _ I5' r5 (step x H5 y5)) fun _ s6 ⟨σ6, H6, I6, q6⟩ => ?_
      refine thn (ht _ _ _ _ _ s6 σ6 H6 _ I6 q6) fun ok s7 ⟨H7, I7, q7⟩ => ?_
      have back : ∀ {σ8 : St} {H8 : Hp} {s8 : Shared} {pl : List (Addr × Obj)}, Inv (cxBlk X scope cl G.objs.size N fp s2 H2) (pl ++ pinsAt fp s5.heap) σ8 H8 s8 → tn (i + 1) s8.heap ∧ ∀ b ∈ fp, H8 b = none := fun {σ8 H8 s8 pl} I8 =>
        ⟨T.keep _ _ _ st5 fun b hb o e => (I8.pin (b, o) (List.mem_append_right _ (List.mem_append_right _ (mem_pinsAt hb e)))).1, fun b hb => by
          obtain ⟨o, e, d⟩ := T.obj _ _ st5 b hb
          exact (I8.pin (b, o) (List.mem_append_right _ (List.mem_append_right _ (mem_pinsAt hb e)))).2.1⟩
      cases ok with
      | false =>
        rw [if_neg Bool.false_ne_true] at q7 ⊢
        obtain ⟨m', hm, w7⟩ := hNN _ _ _ q7
        exact ⟨m', hm, i + 1, ys, its, k, σ6, H7, I7.unpinned, rv, (back I7).1, (back I7).2, w7⟩
      | true =>
        rw [if_pos rfl] at q7 ⊢
        refine thn (he _ _ _ _ _ s7 σ6 H7 _ I7 q7) fun y s8 ⟨v8, H8, I8, r8, q8⟩ => ?_
        obtain ⟨m', hm, w8⟩ := hNN _ _ _ q8
        have pD8 := I8.pin _ (List.mem_append_right _ (List.mem_append_left _ (.head _)))
        have hl := rv.length
        refine wpAny_list_append_plain ⟨k, pD8.1⟩ (fun h9 pl9 sb9 => ?_) (by rw [List.size_toArray]; omega)
        obtain ⟨k9, e9⟩ := pl9
        have e9' : h9.get? s2.heap.objs.size = some { cls := .type "list", data := .seq (List.toArray (its ++ [y])) k9 } := by rw [e9]; simp
        have I8' : Inv (cxBlk X scope cl G.objs.size N fp s2 H2) (pinsAt fp s5.heap) σ6 H8 s8 := I8.pins_of fun p hp => I8.pin p (List.mem_append_right _ (List.mem_append_right _ hp))
        have I9 : Inv (cxBlk X scope cl G.objs.size N fp s2 H2) (pinsAt fp s5.heap) σ6 H8 { s8 with heap := h9 } := I8'.turned (it := s2.heap.objs.size) (t' := s8.toks) (fun b o hb e => sb9.extBut b o hb e) pD8.2.1 pD8.2.2.1 (.inr (Nat.le_refl _))
          (fun x c e z => by
            obtain ⟨vc, oc, hoc, hd⟩ := I8.cell x c e
            rw [z, pD8.1] at hoc
            cases hoc
            cases hd)
          fun p hp z => by
            have hp' : p ∈ pinsAt fp s5.heap := by simpa [cxBlk] using hp
            obtain ⟨q1, q2⟩ := of_pinsAt hp'
            obtain ⟨ob, eb, _⟩ := T.obj _ _ st2 p.1 q1
            exact Nat.lt_irrefl _ (by have := Heap.lt_size eb; rw [z] at this; exact this)
        have hk9 : ∀ b ∈ fp, ∀ o, s8.heap.get? b = some o → h9.get? b = some o := fun b hb o e => sb9.extBut b o (fun z => by
          obtain ⟨ob, eb, _⟩ := T.obj _ _ st2 b hb
          exact Nat.lt_irrefl _ (by have := Heap.lt_size eb; rw [z] at this; exact this)) e
        refine ⟨m', hm, i + 1, ys ++ [v8], its ++ [y], k9, σ6, H8, I9.pins_of fun p hp => ?_, rv.append (.cons r8 .nil), T.keep _ _ _ (back I8).1 hk9, (back I8).2, w8⟩
        have e : p = (s2.heap.objs.size, { cls := .type "list", data := .seq (List.toArray (its ++ [y])) k9 }) := by simpa using hp
        subst e
        exact ⟨e9', pD8.2.1, pD8.2.2.1, pD8.2.2.2.1, fun v z => nomatch z⟩
  exact codeAny_compStart_list (loop _ rfl) (T.self _ 0 _ _ _ (T.keep _ _ _ st2 fun b _ o e => old b o e) (loop _ rfl))
theorem ps_lcR {X : Cx} {scope : Scope} {cl : List (Str × Addr)} {N : List Str} {bs : List (Option Nat)} {tg a elt : Expr} {ifs : List Expr} {p pos' pos spos px : Pos} {x : Str} {ta : TA} {g gt : TG} {tt : TT} {te : TE} (B : Blk X scope cl N bs) (hc : X.calm = true)
    (hgl : Gl X "range") (hmr : X.mg "range" = none) (ha : PA X [a] ta) (hm : MonoA ta) (hpl : plainE a = true) (hg : ∀ C fp s H, PG (cxBlk X scope cl C N fp s H) tg g) (ht : ∀ C fp s H, PTs (cxBlk X scope cl C N fp s H) ifs tt) (he : ∀ C fp s H, PE (cxBlk X scope cl C N fp s H) elt te)
    (hgt : PG X (.Name x px) gt) (hsw : swapsWith (.ListComp elt [⟨tg, .Call (.Name "range" p) [a] [] pos', ifs, 0⟩] scope pos) (some (.Name x px)) spos.line X.env = pure true)
    (hs : ∀ x, foldedSetIterable (.Call (.Name "range" p) [a] [] pos') X.env x = pure x := by intro _; rfl) : PS X (.Assign [.Name x px] (.ListComp elt [⟨tg, .Call (.Name "range" p) [a] [] pos', ifs, 0⟩] scope pos) spos) (tAsg (tLCR bs ta g tt te) gt) := by
  intro pins s σ H D I h
  refine @ps_lc X scope cl N bs tg _ elt ifs pos spos px x (iRng1 ta) g gt tt te B hc (@pi_range1 X tg a ta p pos' hgl hmr ha (star_cons hpl)) hg ht he hgt hsw hs pins s σ H D I ?_
  refine hm σ H _ _ (fun vs H1 h => ?_) h
  obtain ⟨n, e, hz, Pv, p0, pl, ps, pd⟩ := h
  refine ⟨(n : Int), e, by omega, by omega, ?_⟩
  rw [Int.toNat_natCast]
  exact lc_range (Q := fun x H1 => gt x σ H1 D.nx) Pv (leMil hz) p0 pl ps fun ys σ H hp p hpn => pd ys σ H hp p _ (same_add hpn) upd_same
end L2
set_option Elab.async false
set_option linter.all false
set_option maxRecDepth 100000
set_option maxHeartbeats 4000000
set_option Elab.async false
set_option linter.all false
set_option maxRecDepth 100000
set_option maxHeartbeats 4000000
set_option Elab.async false
set_option linter.all false
set_option maxRecDepth 100000
set_option maxHeartbeats 4000000
namespace L2
open PySem PySem.Spec PyProof.Rows PySem.SeqAt
def Atom : V → Prop
  | .non => True
  | .bl _ => True
  | .int _ => True
  | .str _ => True
  | _ => False
def Sam (K : PySem.W.Frag) (H : Hp) : Nat → V → V → Prop
  | 0, x, y => x = y ∧ Atom x
  | d + 1, x, y => (x = y ∧ Atom x) ∨ ∃ a b xs ys, x = .ref a ∧ y = .ref b ∧ ((SqT K H a xs ∧ SqT K H b ys) ∨ (SqL K H a xs ∧ SqL K H b ys)) ∧ xs.length = ys.length ∧ ∀ (i : Nat) u v, xs[i]? = some u → ys[i]? = some v → Sam K H d u v
section
variable {X : Cx}
theorem all_true (n : Nat) : (List.range n).all (fun _ => true) = true := by simp
end
end L2
set_option Elab.async false
set_option linter.all false
set_option maxRecDepth 100000
namespace L2
open PySem PySem.Spec PyProof.Rows
section
variable {κ : Type} [DecidableEq κ]
def valV (kvs : List (κ × V)) (k : κ) : Option V := (kvs.find? fun kv => decide (kv.1 = k)).map (·.2)
def putK (kvs : List (κ × V)) (k : κ) (v : V) : List (κ × V) :=
  if (kvs.any fun kv => decide (kv.1 = k)) = true then kvs.map (fun kv => if kv.1 = k then (kv.1, v) else kv) else kvs ++ [(k, v)]
def dropK (kvs : List (κ × V)) (k : κ) : List (κ × V) := kvs.filter fun kv => decide (kv.1 ≠ k)
theorem valV_pos {p : κ × V} {r : List (κ × V)} {k : κ} (e : p.1 = k) : valV (p :: r) k = some p.2 := by simp [valV, List.find?_cons, e]
theorem valV_neg {p : κ × V} {r : List (κ × V)} {k : κ} (e : ¬ p.1 = k) : valV (p :: r) k = valV r k := by simp [valV, List.find?_cons, e]
theorem valV_any (k : κ) : ∀ kvs : List (κ × V), (kvs.any fun kv => decide (kv.1 = k)) = (valV kvs k).isSome
  | [] => rfl
  | p :: r => by
    rw [List.any_cons]
    by_cases e : p.1 = k
    · simp only [valV_pos e, decide_eq_true e, Bool.true_or, Option.isSome_some]
    · rw [valV_neg e, decide_eq_false e, Bool.false_or]; exact valV_any k r
theorem valV_map (k j : κ) (y : V) : ∀ kvs : List (κ × V), valV (kvs.map fun kv => if kv.1 = k then (kv.1, y) else kv) j = (valV kvs j).map fun x => if j = k then y else x
  | [] => rfl
  | p :: r => by
    have ih := valV_map k j y r
    rw [List.map_cons]
    by_cases h : p.1 = k
    · rw [if_pos h]
      by_cases e : p.1 = j
      · rw [valV_pos (p := (p.1, y)) e, valV_pos e, Option.map_some, if_pos (e.symm.trans h)]
      · rw [valV_neg (p := (p.1, y)) e, valV_neg e, ih]
    · rw [if_neg h]
      by_cases e : p.1 = j
      · rw [valV_pos (p := p) e, valV_pos e, Option.map_some, if_neg (fun z => h (e.trans z))]
      · rw [valV_neg (p := p) e, valV_neg e, ih]
theorem valV_snoc (k j : κ) (y : V) : ∀ kvs : List (κ × V), valV kvs k = none → valV (kvs ++ [(k, y)]) j = if j = k then some y else valV kvs j
  | [], _ => by
    by_cases e : k = j
    · rw [if_pos e.symm]; exact valV_pos (p := (k, y)) e
    · rw [if_neg (fun z => e z.symm)]; exact valV_neg (p := (k, y)) e
  | p :: r, hn => by
    rw [List.cons_append]
    have hk : ¬ p.1 = k := fun z => by rw [valV_pos z] at hn; cases hn
    rw [valV_neg hk] at hn
    have ih := valV_snoc k j y r hn
    by_cases e : p.1 = j
    · rw [valV_pos e, valV_pos e, if_neg (fun z => hk (e.trans z))]
    · rw [valV_neg e, valV_neg e, ih]
theorem valV_put (kvs : List (κ × V)) (k j : κ) (y : V) : valV (putK kvs k y) j = if j = k then some y else valV kvs j := by
  unfold putK
  by_cases a : (kvs.any fun kv => decide (kv.1 = k)) = true
  · rw [if_pos a, valV_map]
    rw [valV_any] at a
    by_cases e : j = k
    · obtain ⟨x, hx⟩ := Option.isSome_iff_exists.mp a
      rw [if_pos e, e, hx, Option.map_some, if_pos rfl]
    · rw [if_neg e]
      cases valV kvs j with
      | none => rfl
      | some x => rw [Option.map_some, if_neg e]
  · rw [if_neg a]
    refine valV_snoc k j y kvs ?_
    rw [valV_any] at a
    cases q : valV kvs k with
    | none => rfl
    | some x => rw [q] at a; exact (a rfl).elim
theorem length_putK (kvs : List (κ × V)) (k : κ) (v : V) : (putK kvs k v).length ≤ kvs.length + 1 := by
  unfold putK
  split
  · rw [List.length_map]; omega
  · rw [List.length_append, List.length_cons, List.length_nil]; omega
theorem putK_new {kvs : List (κ × V)} {k : κ} (v : V) (h : valV kvs k = none) : putK kvs k v = kvs ++ [(k, v)] := by
  unfold putK
  rw [valV_any, h]
  exact if_neg (by decide)
theorem RelO.isSome_eq {o : Option V} {u : Option Value} (r : RelO o u) : o.isSome = u.isSome := by
  cases o with
  | none => cases u with
    | none => rfl
    | some _ => exact (show False from r).elim
  | some _ => cases u with
    | none => exact (show False from r).elim
    | some _ => rfl
theorem RelO.getD {o : Option V} {u : Option Value} {d : V} {d' : Value} (r : RelO o u) (rd : RelV d d') : RelV (o.getD d) (u.getD d') := by
  cases o with
  | none => cases u with
    | none => exact rd
    | some _ => exact (show False from r).elim
  | some _ => cases u with
    | none => exact (show False from r).elim
    | some _ => exact r
theorem KV.val {kvs : List (κ × V)} {vs : List (κ × Value)} (r : KV kvs vs) (k : κ) : RelO (valV kvs k) (valueAt vs k) := by
  unfold KV at r
  induction r with
  | nil => exact True.intro
  | @cons p q ps qs h t ih =>
    obtain ⟨h1, h2⟩ := h
    by_cases e : p.1 = k
    · have e' : q.1 = k := h1.symm.trans e
      have b : valueAt (q :: qs) k = some q.2 := by simp [valueAt, List.find?_cons, e']
      rw [valV_pos e, b]; exact h2
    · have e' : ¬ q.1 = k := fun z => e (h1.trans z)
      have b : valueAt (q :: qs) k = valueAt qs k := by simp [valueAt, List.find?_cons, e']
      rw [valV_neg e, b]; exact ih
theorem KV.any {kvs : List (κ × V)} {vs : List (κ × Value)} (r : KV kvs vs) (k : κ) : (kvs.any fun kv => decide (kv.1 = k)) = vs.any fun kv => decide (kv.1 = k) := by
  unfold KV at r
  induction r with
  | nil => rfl
  | cons h t ih => rw [List.any_cons, List.any_cons, ih, h.1]
theorem KV.repl {kvs : List (κ × V)} {vs : List (κ × Value)} (r : KV kvs vs) (k : κ) {y : V} {u : Value} (ry : RelV y u) :
    KV (kvs.map fun kv => if kv.1 = k then (kv.1, y) else kv) (vs.map fun kv => if kv.1 = k then (kv.1, u) else kv) := by
  unfold KV at r ⊢
  induction r with
  | nil => exact .nil
  | @cons p q ps qs h t ih =>
    rw [List.map_cons, List.map_cons]
    refine .cons ?_ ih
    obtain ⟨h1, h2⟩ := h
    by_cases e : p.1 = k
    · rw [if_pos e, if_pos (h1.symm.trans e)]; exact ⟨h1, ry⟩
    · rw [if_neg e, if_neg (fun z => e (h1.trans z))]; exact ⟨h1, h2⟩
theorem KV.put {kvs : List (κ × V)} {vs : List (κ × Value)} (r : KV kvs vs) (k : κ) {y : V} {u : Value} (ry : RelV y u) : KV (putK kvs k y) (stored vs k u) := by
  unfold putK stored
  rw [r.any k]
  by_cases e : (vs.any fun kv => decide (kv.1 = k)) = true
  · rw [if_pos e, if_pos e]; exact r.repl k ry
  · rw [if_neg e, if_neg e]; exact Paired.snoc r ⟨rfl, ry⟩
theorem KV.drop {kvs : List (κ × V)} {vs : List (κ × Value)} (r : KV kvs vs) (k : κ) : KV (dropK kvs k) (without vs k) := by
  unfold KV at r ⊢
  unfold dropK without
  induction r with
  | nil => exact .nil
  | @cons p q ps qs h t ih =>
    obtain ⟨h1, h2⟩ := h
    rw [List.filter_cons, List.filter_cons]
    by_cases e : p.1 = k
    · have a : ¬ decide (p.1 ≠ k) = true := by simp [e]
      have b : ¬ decide (q.1 ≠ k) = true := by simp [h1.symm.trans e]
      rw [if_neg a, if_neg b]; exact ih
    · have e' : ¬ q.1 = k := fun z => e (h1.trans z)
      have a : decide (p.1 ≠ k) = true := by simp [e]
      have b : decide (q.1 ≠ k) = true := by simp [e']
      rw [if_pos a, if_pos b]; exact .cons ⟨h1, h2⟩ ih
theorem KV.keys {kvs : List (κ × V)} {vs : List (κ × Value)} (r : KV kvs vs) : kvs.map (·.1) = vs.map (·.1) := by
  unfold KV at r
  induction r with
  | nil => rfl
  | cons h t ih => rw [List.map_cons, List.map_cons, ih, h.1]
theorem KV.length {kvs : List (κ × V)} {vs : List (κ × Value)} (r : KV kvs vs) : kvs.length = vs.length := Paired.length r
theorem dropK_le (kvs : List (κ × V)) (k : κ) : (dropK kvs k).length ≤ kvs.length := List.length_filter_le _ _
end
theorem kV_is {P : Program} {w : World} {k : Key} {u : Value} (r : RelV (kV k) u) : (mixKind P w).is k u = true := by
  cases k with
  | inl i => obtain ⟨t, e⟩ := (show ∃ t, u = Value.int i t from r); subst e; exact mixKind_int P w i t
  | inr x => obtain ⟨t, e⟩ := (show ∃ t, u = Value.str x t from r); subst e; exact mixKind_str P w x t
theorem items_are {P : Program} {w : World} : ∀ {ks : List Key} {us : List Value}, Vals (ks.map kV) us → ItemsAre (mixKind P w) ks us
  | [], _, r => by rw [List.map_nil] at r; cases r; exact .nil
  | k :: ks, _, r => by
    rw [List.map_cons] at r
    cases r with
    | cons h t => exact .cons (kV_is h) (items_are t)
abbrev KT (H : Hp) : List (List Key × V) → List (List Key × Addr × Value) → Prop := Paired fun p q => p.1 = q.1 ∧ H q.2.1 = some (.tup (p.1.map kV)) ∧ RelV p.2 q.2.2
theorem KT.val {H : Hp} {kvs : List (List Key × V)} {xs : List (List Key × Addr × Value)} (r : KT H kvs xs) (k : List Key) : RelO (valV kvs k) ((atKey xs k).map (·.2)) := by
  induction r with
  | nil => exact True.intro
  | @cons p q ps qs h t ih =>
    obtain ⟨h1, _, h2⟩ := h
    by_cases e : p.1 = k
    · have e' : q.1 = k := h1.symm.trans e
      have b : atKey (q :: qs) k = some q.2 := by simp [atKey, List.find?_cons, e']
      rw [valV_pos e, b]; exact h2
    · have e' : ¬ q.1 = k := fun z => e (h1.trans z)
      have b : atKey (q :: qs) k = atKey qs k := by simp [atKey, List.find?_cons, e']
      rw [valV_neg e, b]; exact ih
theorem KT.repl {H : Hp} {kvs : List (List Key × V)} {xs : List (List Key × Addr × Value)} (r : KT H kvs xs) (k : List Key) {y : V} {u : Value} (ry : RelV y u) :
    KT H (kvs.map fun kv => if kv.1 = k then (kv.1, y) else kv) (xs.map (putAt k u)) := by
  induction r with
  | nil => exact .nil
  | @cons p q ps qs h t ih =>
    rw [List.map_cons, List.map_cons]
    refine .cons ?_ ih
    obtain ⟨h1, h2, h3⟩ := h
    unfold putAt
    by_cases e : p.1 = k
    · rw [if_pos e, if_pos (h1.symm.trans e)]; exact ⟨h1, h2, ry⟩
    · rw [if_neg e, if_neg (fun z => e (h1.trans z))]; exact ⟨h1, h2, h3⟩
theorem KT.put {H : Hp} {kvs : List (List Key × V)} {xs : List (List Key × Addr × Value)} (r : KT H kvs xs) (k : List Key) {b : Addr} {y : V} {u : Value} (hb : H b = some (.tup (k.map kV))) (ry : RelV y u) :
    KT H (putK kvs k y) (storedH xs k b u) := by
  have e : (kvs.any fun kv => decide (kv.1 = k)) = (atKey xs k).isSome := by
    rw [valV_any, (r.val k).isSome_eq, Option.isSome_map]
  unfold putK storedH
  rw [e]
  by_cases q : (atKey xs k).isSome = true
  · rw [if_pos q, if_pos q]; exact r.repl k ry
  · rw [if_neg q, if_neg q]; exact Paired.snoc r ⟨rfl, hb, ry⟩
theorem KT.keeps {H H' : Hp} {kvs : List (List Key × V)} {xs : List (List Key × Addr × Value)} (r : KT H kvs xs) (ht : ∀ b ys, H b = some (.tup ys) → H' b = some (.tup ys)) : KT H' kvs xs :=
  Paired.mapP r fun _ _ z => ⟨z.1, ht _ _ z.2.1, z.2.2⟩
section
variable {P : Program} {w : World} {H : Hp} {h : Heap} {a : Addr}
theorem rd_of {u : HO} (ok : HOk P w H h) (e : Rd H a u) : ObjOk P w H h a u := e.ok ok
theorem dk_rd {kvs : List (Key × V)} (ok : HOk P w H h) (e : Rd H a (.dK kvs)) : kvs.length ≤ sizeLine ∧ (a == sysModules) = false ∧ ∃ vs, KV kvs vs ∧ h.DictOf (mixKind P w) a vs :=
  show ObjOk P w H h a (.dK kvs) from rd_of ok e
theorem dk_of {kvs : List (Key × V)} (ok : HOk P w H h) (e : H a = some (.dK kvs)) : kvs.length ≤ sizeLine ∧ (a == sysModules) = false ∧ ∃ vs, KV kvs vs ∧ h.DictOf (mixKind P w) a vs := dk_rd ok (.inl e)
theorem key_of {ks : List Key} (ok : HOk P w H h) (e : H a = some (.tup (ks.map kV))) : (tupleKind (mixKind P w)).is h ks a := by
  obtain ⟨_, its, r, o, h1, h2, n, h3⟩ := (show ObjOk P w H h a (.tup (ks.map kV)) from ok a _ e)
  exact ⟨o, its.toArray, n, h1, h2, h3, by simpa using items_are r⟩
theorem dt_rd {kvs : List (List Key × V)} (ok : HOk P w H h) (e : Rd H a (.dT kvs)) : kvs.length ≤ sizeLine ∧ (a == sysModules) = false ∧
    ∃ xs, KT H kvs xs ∧ h.DictOfH (tupleKind (mixKind P w)) a xs := by
  obtain ⟨z, y, xs, r, o, es, ep, h1, h2, h3, h4, h5⟩ := (show ObjOk P w H h a (.dT kvs) from rd_of ok e)
  refine ⟨z, y, xs, r, o, es, ep, h1, h2, h3, h4, fun x hx => ?_, h5⟩
  have all : ∀ {l : List (List Key × V)} {m : List (List Key × Addr × Value)}, KT H l m → ∀ x ∈ m, (tupleKind (mixKind P w)).is h x.1 x.2.1 := by
    intro l m q
    induction q with
    | nil => intro x hx; exact nomatch hx
    | @cons p q ps qs hq t ih =>
      intro x hx
      rcases List.mem_cons.mp hx with e | hx
      · subst e
        exact key_of ok (by rw [← hq.1]; exact hq.2.1)
      · exact ih x hx
  exact all r x hx
theorem dt_of {kvs : List (List Key × V)} (ok : HOk P w H h) (e : H a = some (.dT kvs)) : kvs.length ≤ sizeLine ∧ (a == sysModules) = false ∧
    ∃ xs, KT H kvs xs ∧ h.DictOfH (tupleKind (mixKind P w)) a xs := dt_rd ok (.inl e)
end
def DGet (H : Hp) (a : Addr) (y : V) (r : Option V) : Prop :=
  (∃ kvs k, Rd H a (.dK kvs) ∧ y = kV k ∧ r = valV kvs k) ∨ ∃ kvs k b, Rd H a (.dT kvs) ∧ y = .ref b ∧ H b = some (.tup (k.map kV)) ∧ r = valV kvs k
def DPut (H : Hp) (a : Addr) (y v : V) (H' : Hp) : Prop :=
  (∃ kvs k, H a = some (.dK kvs) ∧ y = kV k ∧ kvs.length < sizeLine ∧ H' = upd H a (.dK (putK kvs k v))) ∨
  ∃ kvs k b, H a = some (.dT kvs) ∧ y = .ref b ∧ H b = some (.tup (k.map kV)) ∧ kvs.length < sizeLine ∧ H' = upd H a (.dT (putK kvs k v))
theorem DGet.k {H : Hp} {a : Addr} {kvs : List (Key × V)} {k : Key} (e : H a = some (.dK kvs)) : DGet H a (kV k) (valV kvs k) := .inl ⟨kvs, k, .inl e, rfl, rfl⟩
theorem DGet.t {H : Hp} {a b : Addr} {kvs : List (List Key × V)} {k : List Key} (e : H a = some (.dT kvs)) (eb : H b = some (.tup (k.map kV))) : DGet H a (.ref b) (valV kvs k) := .inr ⟨kvs, k, b, .inl e, rfl, eb, rfl⟩
theorem DPut.k {H : Hp} {a : Addr} {kvs : List (Key × V)} {k : Key} {v : V} (e : H a = some (.dK kvs)) (hl : kvs.length < sizeLine) : DPut H a (kV k) v (upd H a (.dK (putK kvs k v))) := .inl ⟨kvs, k, e, rfl, hl, rfl⟩
theorem DPut.t {H : Hp} {a b : Addr} {kvs : List (List Key × V)} {k : List Key} {v : V} (e : H a = some (.dT kvs)) (eb : H b = some (.tup (k.map kV))) (hl : kvs.length < sizeLine) :
    DPut H a (.ref b) v (upd H a (.dT (putK kvs k v))) := .inr ⟨kvs, k, b, e, rfl, eb, hl, rfl⟩
section
variable {X : Cx} {pins : List (Addr × Obj)} {σ : St} {H : Hp} {s : Shared} {a : Addr} {y v : V} {u r : Value} {o : Option V} {A : Around} {E : Value → Shared → Prop}
theorem d_getItem {Q : Value → Shared → Prop} (hu : A.units + 1 < cLine) (I : Inv X pins σ H s) (g : DGet H a y (some v)) (ry : RelV y u) (h : ∀ w' s', Inv X pins σ H s' → RelV v w' → Q w' s') :
    wpAny (model X.prog X.w) A (getItem (.ref a) u) Q E s := by
  rcases g with ⟨kvs, k, e, ey, l⟩ | ⟨kvs, k, b, e, ey, eb, l⟩
  · subst ey
    obtain ⟨z, hd, vs, rel, dd⟩ := dk_rd I.hok e
    obtain ⟨w', hw, rw'⟩ := RelO.some_of (v := v) (o := valueAt vs k) (by rw [l]; exact rel.val k)
    exact wpAny_getItem_of (kV_is ry) dd.mapOf hw (h w' _ (I.tok _) rw')
  · subst ey
    cases (show u = Value.ref b from ry)
    obtain ⟨z, hd, xs, rel, dd⟩ := dt_rd I.hok e
    obtain ⟨w', hw, rw'⟩ := RelO.some_of (v := v) (o := (atKey xs k).map (·.2)) (by rw [l]; exact rel.val k)
    obtain ⟨p, hp, hp2⟩ := Option.map_eq_some_iff.mp hw
    refine wpAny_getItem_heap (tupleKind_room_in1 hu) (key_of I.hok eb) dd hp ?_
    rw [hp2]
    exact h w' _ (I.tok _) rw'
theorem d_in {Q : Value → Shared → Prop} (hu : A.units + 1 < cLine) (I : Inv X pins σ H s) (g : DGet H a y o) (ry : RelV y u) (h : ∀ s', Inv X pins σ H s' → Q (.bool o.isSome) s') :
    wpAny (model X.prog X.w) A (compareOp .In u (.ref a)) Q E s := by
  rcases g with ⟨kvs, k, e, ey, l⟩ | ⟨kvs, k, b, e, ey, eb, l⟩
  · subst ey
    obtain ⟨z, hd, vs, rel, dd⟩ := dk_rd I.hok e
    refine wpAny_in_of (kV_is ry) hd dd.mapOf ?_
    rw [← (rel.val k).isSome_eq, ← l]
    exact h _ (I.tok _)
  · subst ey
    cases (show u = Value.ref b from ry)
    obtain ⟨z, hd, xs, rel, dd⟩ := dt_rd I.hok e
    refine wpAny_in_heap (tupleKind_room_in1 hu) (key_of I.hok eb) hd dd ?_
    have q := (rel.val k).isSome_eq
    rw [Option.isSome_map] at q
    rw [← q, ← l]
    exact h _ (I.tok _)
theorem d_notIn {Q : Value → Shared → Prop} (hu : A.units + 1 < cLine) (I : Inv X pins σ H s) (g : DGet H a y o) (ry : RelV y u) (h : ∀ s', Inv X pins σ H s' → Q (.bool (!o.isSome)) s') :
    wpAny (model X.prog X.w) A (compareOp .NotIn u (.ref a)) Q E s := by
  rcases g with ⟨kvs, k, e, ey, l⟩ | ⟨kvs, k, b, e, ey, eb, l⟩
  · subst ey
    obtain ⟨z, hd, vs, rel, dd⟩ := dk_rd I.hok e
    refine wpAny_notIn_of (kV_is ry) hd dd.mapOf ?_
    rw [← (rel.val k).isSome_eq, ← l]
    exact h _ (I.tok _)
  · subst ey
    cases (show u = Value.ref b from ry)
    obtain ⟨z, hd, xs, rel, dd⟩ := dt_rd I.hok e
    refine wpAny_notIn_heap (tupleKind_room_in1 hu) (key_of I.hok eb) hd dd ?_
    have q := (rel.val k).isSome_eq
    rw [Option.isSome_map] at q
    rw [← q, ← l]
    exact h _ (I.tok _)
theorem d_write {h' : Heap} {t' : Nat} {ob : HO} (I : Inv X pins σ H s) (mu : Mut (H a)) (hs : Heap.SameBut a s.heap h') (he : ∃ q, h'.get? a = some q) (new : ObjOk X.prog X.w (upd H a ob) h' a ob) :
    Inv X pins σ (upd H a ob) { s with heap := h', toks := t' } :=
  I.write (x := a) (e := a) mu (.inl rfl) (fun b q hb z => (hs.2 b hb).trans z) he new
theorem dk_new {P : Program} {w : World} {H' : Hp} {h' : Heap} {kvs : List (Key × V)} {vs : List (Key × Value)} (z : kvs.length ≤ sizeLine) (hd : (a == sysModules) = false) (rel : KV kvs vs) (dd : h'.DictOf (mixKind P w) a vs) :
    ObjOk P w H' h' a (.dK kvs) := ⟨z, hd, vs, rel, dd⟩
theorem d_setItem {H' : Hp} {Q : Unit → Shared → Prop} (hu : A.units + 1 < cLine) (I : Inv X pins σ H s) (g : DPut H a y v H') (ry : RelV y u) (rv : RelV v r) (h : ∀ s', Inv X pins σ H' s' → Q () s') :
    wpAny (model X.prog X.w) A (setItem (.ref a) u r) Q E s := by
  rcases g with ⟨kvs, k, e, ey, l, eH⟩ | ⟨kvs, k, b, e, ey, eb, l, eH⟩
  · subst ey eH
    obtain ⟨z, hd, vs, rel, dd⟩ := dk_of I.hok e
    have hz : vs.length ≤ sizeLine := by rw [← rel.length]; exact z
    have hl : (putK kvs k v).length ≤ sizeLine := by have := length_putK kvs k v; omega
    refine wpAny_setItem_pairs (hsz := hz) (kV_is ry) dd fun h' dd' hs => h _ ?_
    have he : ∃ q, h'.get? a = some q := let ⟨q, _, _, hq, _⟩ := dd'; ⟨q, hq⟩
    exact d_write I (by rw [e]; exact True.intro) hs he (dk_new hl hd (rel.put k rv) dd')
  · subst ey eH
    cases (show u = Value.ref b from ry)
    obtain ⟨z, hd, xs, rel, dd⟩ := dt_of I.hok e
    have hz : xs.length ≤ sizeLine := by rw [← Paired.length rel]; exact z
    have hl : (putK kvs k v).length ≤ sizeLine := by have := length_putK kvs k v; omega
    refine wpAny_setItem_heap (hsz := hz) (tupleKind_room_in1 hu) (key_of I.hok eb) dd fun h' dd' hs => h _ ?_
    obtain ⟨q, es, ep, hq, h2, h3, h4, _, h5⟩ := dd'
    refine d_write I (by rw [e]; exact True.intro) hs ⟨q, hq⟩ ⟨hl, hd, _, (rel.put k eb rv).keeps fun c ys ec => ?_, q, es, ep, hq, h2, h3, h4, h5⟩
    rw [upd_ne (ne_of ec e (fun z => nomatch z))]
    exact ec
end
section
variable {X : Cx} {pins : List (Addr × Obj)} {σ : St} {H : Hp} {s : Shared} {a : Addr} {kvs : List (Key × V)} {k : Key} {u : Value} {A : Around} {E : Value → Shared → Prop}
theorem d_delItem {Q : Unit → Shared → Prop} (I : Inv X pins σ H s) (e : H a = some (.dK kvs)) (ry : RelV (kV k) u) (l : (valV kvs k).isSome = true) (h : ∀ s', Inv X pins σ (upd H a (.dK (dropK kvs k))) s' → Q () s') :
    wpAny (model X.prog X.w) A (delItem (.ref a) u) Q E s := by
  obtain ⟨z, hd, vs, rel, dd⟩ := dk_of I.hok e
  refine wpAny_delItem_slot dd.typeIs (by decide) PySem.F.slot_dict_delitem
    (call_meetsIn PySem.F.slot_dict_delitem dd.typeIs PySem.F.entry_dict_delitem (PySem.F.args_dict_delitem_2 _ _) (meets_dict_delitem_pairs (mixKind X.prog X.w) a (kV_is ry)) ⟨vs, dd, by rw [← rel.length]; exact z, by rw [← (rel.val k).isSome_eq]; exact l, fun h' dd' hs => h _ ?_⟩)
  have he : ∃ q, h'.get? a = some q := let ⟨q, _, _, hq, _⟩ := dd'; ⟨q, hq⟩
  exact d_write I (by rw [e]; exact True.intro) hs he (dk_new (Nat.le_trans (dropK_le kvs k) z) hd (rel.drop k) dd')
theorem d_pop {v : V} {more : List Value} {Q : Value → Shared → Prop} (I : Inv X pins σ H s) (e : H a = some (.dK kvs)) (ry : RelV (kV k) u) (l : valV kvs k = some v) (hm : more = [] ∨ ∃ x, more = [x])
    (h : ∀ w' s', Inv X pins σ (upd H a (.dK (dropK kvs k))) s' → RelV v w' → Q w' s') : wpAny (model X.prog X.w) A (call (.builtin "dict.pop") (.ref a :: u :: more)) Q E s := by
  obtain ⟨z, hd, vs, rel, dd⟩ := dk_of I.hok e
  obtain ⟨w', hw, rw'⟩ := RelO.some_of (v := v) (o := valueAt vs k) (by rw [← l]; exact rel.val k)
  have hp : (keyPart u).isSome = true := by
    cases k with
    | inl i => obtain ⟨t, q⟩ := (show ∃ t, u = Value.int i t from ry); subst q; rfl
    | inr x => obtain ⟨t, q⟩ := (show ∃ t, u = Value.str x t from ry); subst q; rfl
  have ha : argsOk "dict.pop" ⟨.ref a :: u :: more, []⟩ := by
    rcases hm with q | ⟨x, q⟩
    · subst q; exact PySem.F.args_dict_pop_2 _ _
    · subst q; exact PySem.F.args_dict_pop_3 _ _ _
  refine call_meetsIn PySem.F.slot_dict_pop dd.typeIs PySem.F.entry_dict_pop ha (meets_dict_pop_there (mixKind X.prog X.w) a (kV_is ry) more hm hp)
    ⟨vs, w', dd, by rw [← rel.length]; exact z, hw, fun h' dd' hs => h w' _ ?_ rw'⟩
  have he : ∃ q, h'.get? a = some q := let ⟨q, _, _, hq, _⟩ := dd'; ⟨q, hq⟩
  exact d_write I (by rw [e]; exact True.intro) hs he (dk_new (Nat.le_trans (dropK_le kvs k) z) hd (rel.drop k) dd')
end
def NoSl (i : Expr) : Prop := ∀ ov iv, subscripted i false ov iv = operate [ov, iv] (getItem ov iv)
theorem subD_of {prog : Program} {w : World} {A : Around} {E : Value → Shared → Prop} {s : Shared} {env : Env} {value slice : Expr} {pos : Pos} {T id : String} {Q : Value → Shared → Prop}
    (hl : typeLookup (.type T) "__getitem__" = pure (some (.builtin id))) (hs : NoSl slice)
    (h : wpAny (model prog w) A (eval value env) (fun o s₁ => wpAny (model prog w) A (eval slice env) (fun i s₂ => s₂.TypeIs o T ∧ wpAny (model prog w) A (getItem o i) Q E s₂) E s₁) E s) :
    wpAny (model prog w) A (eval (.Subscript value slice pos) env) Q E s := by
  refine Subscript_ (wpAny_mono h (fun o s₁ h₁ => wpAny_mono h₁ (fun i s₂ h₂ => ?_) fun _ _ x => x) fun _ _ x => x)
  obtain ⟨hT, h₂⟩ := h₂
  unfold subscriptTail
  refine wpAny_bind ?_
  rw [getitemInPython_of_ne hT.not_modules]
  refine wpAny_bind (wpAny_specialOf hT hl ?_)
  have fin : wpAny (model prog w) A (subscripted slice false o i) (fun r s₃ => wpAny (model prog w) A (letTemporaryGo value o r >>= fun _ => pure r) Q E s₃) E s₂ := by
    rw [hs o i]
    exact wpAny_operating (wpAny_mono h₂ (fun r s₃ h₃ => wpAny_bind (wpAny_letTemporaryGo (wpAny_pure h₃))) fun _ _ x => x)
  first
    | exact wpAny_pure (wpAny_bind fin)
    | exact wpAny_bind (wpAny_pure (wpAny_bind fin))
    | exact wpAny_bind fin
theorem dict_typeIs {X : Cx} {pins : List (Addr × Obj)} {σ : St} {H : Hp} {s : Shared} {a : Addr} {y : V} {o : Option V} (I : Inv X pins σ H s) (g : DGet H a y o) : s.TypeIs (.ref a) "dict" := by
  rcases g with ⟨kvs, k, e, _, _⟩ | ⟨kvs, k, b, e, _, _, _⟩
  · obtain ⟨_, _, vs, _, dd⟩ := dk_rd I.hok e
    exact dd.typeIs
  · obtain ⟨_, _, xs, _, dd⟩ := dt_rd I.hok e
    exact dd.typeIs
def tDGet (td ty : TE) : TE := fun σ H Q => td σ H fun x H1 => ty σ H1 fun y H2 => ∃ a v, x = .ref a ∧ DGet H2 a y (some v) ∧ Q v H2
def tDIn (ty td : TE) : TE := fun σ H Q => ty σ H fun y H1 => td σ H1 fun x H2 => ∃ a o, x = .ref a ∧ DGet H2 a y o ∧ Q (.bl o.isSome) H2
def tDNotIn (ty td : TE) : TE := fun σ H Q => ty σ H fun y H1 => td σ H1 fun x H2 => ∃ a o, x = .ref a ∧ DGet H2 a y o ∧ Q (.bl (!o.isSome)) H2
def sDPut (td ty tv : TE) : TS := fun D σ H => tv σ H fun v H1 => td σ H1 fun x H2 => ty σ H2 fun y H3 => ∃ a H4, x = .ref a ∧ DPut H3 a y v H4 ∧ D.nx σ H4
section
variable {X : Cx} {o i e value : Expr} {pos pos' tpos : Pos} {td ty tv : TE}
theorem pe_dget (hu : X.A.units + 1 < cLine) (ho : PE X o td) (hi : PE X i ty) (hs : NoSl i) : PE X (.Subscript o i pos) (tDGet td ty) := by
  intro pins s σ H Q I h
  refine subD_of PySem.F.slot_dict_getitem.lookup hs (thn (ho pins s σ H _ I h) fun u s1 ⟨x, H1, I1, rx, q1⟩ => thn (hi pins s1 σ H1 _ I1 q1) fun iv s2 ⟨y, H2, I2, ry, a, v, ex, g, q2⟩ => ?_)
  subst ex
  obtain rfl : u = Value.ref a := rx
  exact ⟨dict_typeIs I2 g, d_getItem hu I2 g ry fun w' s3 I3 rw' => ⟨v, H2, I3, rw', q2⟩⟩
theorem pc_din (hu : X.A.units + 1 < cLine) (hi : PE X i ty) (ho : PE X o td) : PC X .In i o (tDIn ty td) := by
  intro pins s σ H Q I h
  refine thn (hi pins s σ H _ I h) fun iv s1 ⟨y, H1, I1, ry, q1⟩ => thn (ho pins s1 σ H1 _ I1 q1) fun u s2 ⟨x, H2, I2, rx, a, ov, ex, g, q2⟩ => ?_
  subst ex
  obtain rfl : u = Value.ref a := rx
  exact d_in hu I2 g ry fun s3 I3 => ⟨.bl ov.isSome, H2, I3, rfl, q2⟩
theorem pc_dnotin (hu : X.A.units + 1 < cLine) (hi : PE X i ty) (ho : PE X o td) : PC X .NotIn i o (tDNotIn ty td) := by
  intro pins s σ H Q I h
  refine thn (hi pins s σ H _ I h) fun iv s1 ⟨y, H1, I1, ry, q1⟩ => thn (ho pins s1 σ H1 _ I1 q1) fun u s2 ⟨x, H2, I2, rx, a, ov, ex, g, q2⟩ => ?_
  subst ex
  obtain rfl : u = Value.ref a := rx
  exact d_notIn hu I2 g ry fun s3 I3 => ⟨.bl (!ov.isSome), H2, I3, rfl, q2⟩
theorem ps_dput (hu : X.A.units + 1 < cLine) (ho : PE X o td) (hi : PE X i ty) (hv : PE X value tv) (hs : swapsWith value (some (.Subscript o i pos')) pos.line X.env = pure false) :
    PS X (.Assign [.Subscript o i pos'] value pos) (sDPut td ty tv) := by
  intro pins s σ H D I h
  refine wpAny_Assign_Subscript (thn (hv pins s σ H _ I h) fun r s1 ⟨v, H1, I1, rv, q1⟩ => thn (ho pins s1 σ H1 _ I1 q1) fun u s2 ⟨x, H2, I2, rx, q2⟩ => thn (hi pins s2 σ H2 _ I2 q2) fun iv s3 ⟨y, H3, I3, ry, a, H4, ex, g, q3⟩ => ?_) hs
  subst ex
  obtain rfl : u = Value.ref a := rx
  exact d_setItem hu I3 g ry rv fun s4 I4 => ⟨σ, H4, I4, q3⟩
end
structure M1 (X : Cx) (o : Expr) (m : Str) (apos : Pos) (e : Expr) (cpos : Pos) : Prop where
  base : attributeBase o m X.env (eval o X.env) = eval o X.env
  few : ((backTo cpos (starEach [e] X.env)).all (fun x => !x.1) && (backToKw cpos (keywordEach [] X.env)).all (fun x => x.1.isSome)
    && decide (([e] : List Expr).length + ([] : List Keyword).length + (if ([] : List Keyword).isEmpty then 0 else 1) < 30)) = true
  line : (apos.endLine == cpos.line) = true
  trees : backTo cpos (starEach [e] X.env) = [(false, eval e X.env)]
structure M2 (X : Cx) (o : Expr) (m : Str) (apos : Pos) (e f : Expr) (cpos : Pos) : Prop where
  base : attributeBase o m X.env (eval o X.env) = eval o X.env
  few : ((backTo cpos (starEach [e, f] X.env)).all (fun x => !x.1) && (backToKw cpos (keywordEach [] X.env)).all (fun x => x.1.isSome)
    && decide (([e, f] : List Expr).length + ([] : List Keyword).length + (if ([] : List Keyword).isEmpty then 0 else 1) < 30)) = true
  line : (apos.endLine == cpos.line) = true
  trees : backTo cpos (starEach [e, f] X.env) = [(false, eval e X.env), (false, eval f X.env)]
def IsD (H : Hp) (a : Addr) : Prop := (∃ kvs, Rd H a (.dK kvs)) ∨ ∃ kvs, Rd H a (.dT kvs)
theorem isD_at {X : Cx} {pins : List (Addr × Obj)} {σ : St} {H : Hp} {s : Shared} {a : Addr} (I : Inv X pins σ H s) (d : IsD H a) :
    s.TypeIs (.ref a) "dict" ∧ (∀ b, Value.ref a = .ref b → ∃ ob, s.heap.get? b = some ob ∧ ob.dict = none) ∧ (a == sysModules) = false := by
  rcases d with ⟨kvs, e⟩ | ⟨kvs, e⟩
  · obtain ⟨_, hd, vs, _, dd⟩ := dk_rd I.hok e
    refine ⟨dd.typeIs, fun b q => ?_, hd⟩
    cases q
    obtain ⟨ob, _, _, h1, h2, _⟩ := dd
    exact ⟨ob, h1, h2.2.1⟩
  · obtain ⟨_, hd, xs, _, dd⟩ := dt_rd I.hok e
    refine ⟨dd.typeIs, fun b q => ?_, hd⟩
    cases q
    obtain ⟨ob, _, _, h1, h2, _⟩ := dd
    exact ⟨ob, h1, h2.2.1⟩
def tDPop1 (td ty : TE) : TE := fun σ H Q => td σ H fun x H1 => ∃ a, x = .ref a ∧ IsD H1 a ∧ ty σ H1 fun y H2 => ∃ kvs k v, H2 a = some (.dK kvs) ∧ y = kV k ∧ valV kvs k = some v ∧ Q v (upd H2 a (.dK (dropK kvs k)))
section
variable {X : Cx} {o e f : Expr} {apos cpos : Pos} {td ty tx : TE}
theorem pe_dpop1 (ho : PE X o td) (he : PE X e ty) (m : M1 X o "pop" apos e cpos) : PE X (.Call (.Attribute o "pop" apos) [e] [] cpos) (tDPop1 td ty) := by
  intro pins s σ H Q I h
  refine wpAny_Call_method m.base m.few m.line PySem.F.plainAttrs_dict PySem.F.slot_dict_pop PySem.F.type_dict_pop (thn (ho pins s σ H _ I h) fun u s1 ⟨x, H1, I1, rx, a, ex, d, q1⟩ => ?_)
  subst ex
  obtain rfl : u = Value.ref a := rx
  obtain ⟨t1, t2, _⟩ := isD_at I1 d
  refine ⟨t1, t2, ?_⟩
  rw [m.trees]
  refine Calls.callWith_builtin rfl (Calls.evalArgs_plain (Calls.spliced_cons (thn (he pins s1 σ H1 _ I1 q1) fun iv s2 ⟨y, H2, I2, ry, kvs, k, v, ea, ey, l, q2⟩ => Calls.spliced_nil ?_)))
  subst ey
  exact d_pop I2 ea ry l (.inl rfl) fun w' s3 I3 rw' => ⟨v, _, I3, rw', q2⟩
end
section
variable {X : Cx} {pins : List (Addr × Obj)} {σ : St} {H : Hp} {s : Shared} {a : Addr} {kvs : List (Key × V)} {A : Around} {E : Value → Shared → Prop}
theorem d_copyOf {Q : Value → Shared → Prop} (I : Inv X pins σ H s) (e : Rd H a (.dK kvs)) (h : ∀ p s', H p = none → Inv X pins σ (upd H p (.dK kvs)) s' → Q (.ref p) s') : wpAny (model X.prog X.w) A (call (.type "dict") [.ref a]) Q E s := by
  obtain ⟨z, hd, vs, rel, dd⟩ := dk_rd I.hok e
  refine kt_call_dict hd dd (by rw [← rel.length]; exact z) fun h' dd' hs => ?_
  refine h _ _ (I.hok.fresh (Nat.le_refl _)) (I.laid (a := s.heap.objs.size) (o := .dK kvs) (t' := s.toks) (fun b q hq => ?_) (Nat.le_refl _) (dk_new z (beq_eq_false_iff_ne.mpr (Ne.symm (Nat.ne_of_lt I.big))) rel dd'))
  exact (hs.2 b (Nat.ne_of_lt (Heap.lt_size hq))).trans (Heap.get?_push_of_some _ hq)
end
end L2
namespace L2
open PySem PySem.Spec PyProof.Rows
section
variable {κ : Type} [DecidableEq κ]
theorem valV_in {kvs : List (κ × V)} {k : κ} {v : V} (h : valV kvs k = some v) : k ∈ kvs.map (·.1) := by
  have q : (kvs.any fun kv => decide (kv.1 = k)) = true := by
    rw [valV_any, h]
    all_goals rfl
  obtain ⟨p, hp, e⟩ := List.any_eq_true.mp q
  exact List.mem_map.mpr ⟨p, hp, of_decide_eq_true e⟩
theorem dropK_pos {p : κ × V} {r : List (κ × V)} {k : κ} (e : p.1 = k) : dropK (p :: r) k = dropK r k := by
  unfold dropK
  rw [List.filter_cons, if_neg (by simp [e])]
theorem dropK_neg {p : κ × V} {r : List (κ × V)} {k : κ} (e : ¬ p.1 = k) : dropK (p :: r) k = p :: dropK r k := by
  unfold dropK
  rw [List.filter_cons, if_pos (by simp [e])]
end
end L2
set_option Elab.async false
set_option linter.all false
set_option maxRecDepth 100000
set_option maxHeartbeats 4000000
namespace L2
open PySem PySem.Spec PyProof.Rows
structure ZSy (h : Heap) (z TI TO i1 i2 a c : Addr) (i : Nat) : Prop where
  zip : IsZip h z TI TO .none
  ti : IsPair h TI (.ref i1) (.ref i2)
  to : ∃ u v, IsPair h TO u v
  it1 : h.IsTupleIter i1 a i
  it2 : h.IsTupleIter i2 c i
end L2
set_option Elab.async false
set_option linter.all false
set_option maxRecDepth 100000
set_option maxHeartbeats 4000000
namespace L2
open PySem PySem.Spec PyProof.Rows PySem.SeqAt
def nIs : Option Int → Value → Bool
  | Option.none, Value.none => true
  | some k, v => Value.isInt k v
  | _, _ => false
def nH : Option Int → Int
  | Option.none => 0xFCA86420
  | some k => hashInt k
theorem nIs_shape {k : Option Int} {v : Value} (h : nIs k v = true) : (k = Option.none ∧ v = Value.none) ∨ ∃ i t, k = some i ∧ v = Value.int i t := by
  cases k with
  | none =>
    cases v <;> first | exact .inl ⟨rfl, rfl⟩ | cases h
  | some i =>
    obtain ⟨t, e⟩ := Value.isInt_shape (k := i) (v := v) h
    exact .inr ⟨i, t, rfl, e⟩
section
variable {prog : Program} {w : World} {A : Around} {E : Value → Shared → Prop} {s : Shared}
theorem pyHash_none {Q : Int → Shared → Prop} (h : Q 0xFCA86420 { s with toks := s.toks + 1 }) : wpAny (model prog w) A (pyHash .none) Q E s := by
  have hT : s.TypeIs .none "NoneType" := rfl
  unfold pyHash
  have hv : [Value.none].any Value.onHeap = false := rfl
  show wpAny _ _ (pyHashByItsType .none) _ _ _
  unfold pyHashByItsType
  refine wpAny_bind ?_
  rw [cRoomFor, if_neg (by rw [hv]; exact Bool.false_ne_true)]
  refine wpAny_pure ?_
  refine wpAny_bind (wpAny_specialOf hT F.slot_NoneType_hash.lookup ?_)
  show wpAny _ _ (if (some (Value.builtin "NoneType.__hash__") == some Value.none) = true then _ else _) Q E s
  rw [if_neg (by rw [beq_builtin_none]; exact Bool.false_ne_true)]
  refine wpAny_bind (wpAny_specialOf hT F.slot_NoneType_hash.lookup ?_)
  show wpAny _ _ (callSpecialIfBoundUnlessNone? .none "__hash__" _ >>= _) Q E s
  refine wpAny_bind (wpAny_callSpecialIfBoundUnlessNone?_slot hT F.slot_NoneType_hash
    (wpAny_call_entry F.slot_NoneType_hash hT F.entry_NoneType_hash
      (show wpAny _ _ (do ret (← mkInt 0xFCA86420)) _ _ s from wpAny_ret_mkInt ?_) (F.args_NoneType_hash_1 _)))
  show wpAny _ _ (if (decide (-(2 : Int) ^ 63 ≤ 0xFCA86420) && decide ((0xFCA86420 : Int) < 2 ^ 63)) = true then _ else _) Q E _
  rw [if_pos (by decide)]
  exact wpAny_pure h
end
def nKind (prog : Program) (w : World) : PySem.KeyKind prog w (Option Int) where
  is := nIs
  hash := nH
  inj := fun v a b ha hb => by
    rcases nIs_shape ha with ⟨rfl, rfl⟩ | ⟨i, t, rfl, rfl⟩
    · rcases nIs_shape hb with ⟨rfl, _⟩ | ⟨j, u, rfl, e⟩
      · rfl
      · cases e
    · rcases nIs_shape hb with ⟨rfl, e⟩ | ⟨j, u, rfl, e⟩
      · cases e
      · injection e with e1 _; rw [e1]
  byValue := fun k v h => by
    rcases nIs_shape h with ⟨rfl, rfl⟩ | ⟨i, t, rfl, rfl⟩ <;> rfl
  pyHash := fun hv h => by
    rcases nIs_shape hv with ⟨rfl, rfl⟩ | ⟨i, t, rfl, rfl⟩
    · exact pyHash_none h
    · exact wpAny_pyHash_int h
  eqBool := fun {A E s a b u v Q} hu hv h => by
    rcases nIs_shape hu with ⟨rfl, rfl⟩ | ⟨i, t, rfl, rfl⟩
    · rcases nIs_shape hv with ⟨rfl, rfl⟩ | ⟨j, u, rfl, rfl⟩
      · exact EqAt.same _ _ _ _ _ (by simpa using h)
      · exact EqAt.none_int j u _ _ _ _ (by simpa using h)
    · rcases nIs_shape hv with ⟨rfl, rfl⟩ | ⟨j, u, rfl, rfl⟩
      · exact EqAt.int_none i t _ _ _ _ (by simpa using h)
      · have e : decide (some i = some j) = (i == j) := by
          by_cases z : i = j
          · subst z; simp
          · rw [decide_eq_false (fun q => z (Option.some.inj q))]; exact (beq_eq_false_iff_ne.mpr z).symm
        rw [e] at h
        exact wpAny_eqBool_int h
  «strs» := fun k x t v h => by
    rcases nIs_shape h with ⟨rfl, e⟩ | ⟨i, u, rfl, e⟩
    · cases e
    · cases e
end L2
set_option Elab.async false
set_option linter.all false
set_option maxRecDepth 100000
set_option maxHeartbeats 4000000
namespace PySem
open Sem (wp)
theorem lk_list_keys : typeLookup (.type "list") "keys" = pure none := by rw [typeLookup_type, builtinLookup_eq_fast]; kernel_rfl
section
variable {prog : Program} {w : World} {A : Around} {E : Value → Shared → Prop} {s : Shared}
theorem keys_miss_list {a : Addr} {o : Obj} {xs : Array Value} {k : Nat} {Q : Option Value → Shared → Prop} (hx : s.heap.get? a = some o) (hc : o.cls = .type "list") (hdat : o.data = .seq xs k) (hd : o.dict = none) (hA : A.handled = none)
    (h : ∀ h' tk, (∀ b o, s.heap.get? b = some o → h'.get? b = some o) → Q none { s with heap := h', toks := tk }) : wpAny (model prog w) A (getAttr? (.ref a) "keys") Q E s := by
  obtain ⟨c, dct, dat, sl⟩ := o
  simp only at hc hdat hd
  subst hc hdat hd
  obtain ⟨hp, g, d, tk, os⟩ := s
  have hT : ∀ tk', (⟨hp, g, d, tk', os⟩ : Shared).TypeIs (.ref a) "list" := fun _ => ⟨_, hx, rfl⟩
  have f1 := sub_AttributeError
  have f3 := F.slot_list_getattribute.lookup
  have f4 := F.slot_list_getattribute.bind (.ref a)
  have f5 := am_list_getattr_none
  have hm := lk_list_keys
  unfold getAttr? getAttrBy? getAttrBy
  repeat (any_goals (first | assumption | exact hT _ | ((with_reducible show wpAny _ _ (call (Value.builtin "list.__getattribute__") _ _) _ _ _); refine call_meets F.slot_list_getattribute (hT _) am_entry_list_getattribute (F.args_list_getattribute_2 _ _) (meets_getattribute_miss_list a xs k sl "keys" _ hm (by decide +kernel) (by size_fits)) ⟨hx, hA, fun h' tk' e hx' => ?_⟩) | wp_step))
  obtain ⟨t', u', he⟩ := hx'.there
  have hTe : ∀ tk', (⟨h', g, d, tk', os⟩ : Shared).TypeIs (.ref e) "AttributeError" := fun _ => ⟨_, he, rfl⟩
  show wpAny _ _ (getattributeRaised _ _ _ _ _ _ _) _ _ _
  unfold getattributeRaised
  repeat (any_goals (first | assumption | exact hTe _ | wp_step))
  exact h _ _ hx'.keeps
end
end PySem
set_option Elab.async false
set_option linter.all false
set_option maxRecDepth 100000
set_option maxHeartbeats 4000000
namespace DictL
open PySem PySem.Spec PyProof.Rows
theorem entry_loop : entryFor table "dict.update.loop" = some Builtin.«dict.update.loop» := entryFor_of_tree (by kernel_rfl)
theorem plain_loop : plainId "dict.update.loop" = true := by decide +kernel
section
variable {prog : Program} {w : World} {K : Type} [DecidableEq K] {knd : KeyKind prog w K} {A : Around} {R : Result → Shared → Prop} {I : Addr} {fp wr : List Addr} {G : Array GenState → Array GenState → Prop} {n : Nat} {P : Nat → Value → Prop} {St : Nat → Shared → Prop}
def upTo (kv : Nat → K × Value) (i : Nat) : List (K × Value) := ((List.range i).map kv).foldl (fun acc p => stored acc p.1 p.2) []
theorem upTo_succ (kv : Nat → K × Value) (i : Nat) : upTo kv (i + 1) = stored (upTo kv i) (kv i).1 (kv i).2 := by
  unfold upTo; rw [List.range_succ, List.map_append, List.foldl_append]; rfl
theorem stored_len (kvs : List (K × Value)) (k : K) (v : Value) : (stored kvs k v).length ≤ kvs.length + 1 := by
  unfold stored
  split
  · rw [List.length_map]; omega
  · rw [List.length_append]; exact Nat.le_refl _
theorem upTo_len (kv : Nat → K × Value) : ∀ i, (upTo kv i).length ≤ i
  | 0 => Nat.le_refl _
  | i + 1 => by
    rw [upTo_succ]
    have := upTo_len kv i
    have := stored_len (upTo kv i) (kv i).1 (kv i).2
    omega
def PairAt (knd : KeyKind prog w K) (h : Heap) (b : Addr) (p : K × Value) : Prop := ∃ o key m, h.get? b = some o ∧ o.cls = .type "tuple" ∧ o.data = .seq #[key, p.2] m ∧ knd.is p.1 key = true
theorem loop (W : WalksS prog w A.in1 I fp wr G n P St) (D : Addr) (hDf : D ∉ fp) (kv : Nat → K × Value) (hb : n ≤ 1000) :
    ∀ (k i : Nat) (s : Shared), n - i = k → i ≤ n → St i s → (∀ (j : Nat) v, P j v → ∃ b, v = .ref b ∧ PairAt knd s.heap b (kv j) ∧ b ∉ D :: wr) →
      s.heap.DictOf knd D (upTo kv i) →
      (∀ s', Moved (D :: wr) G s s' → s'.heap.DictOf knd D (upTo kv n) → R (.ok (.ret .none)) s') →
      codeAny (model prog w) A (.builtin "dict.update.loop" ⟨[.ref D, .ref I, rawInt i, .none], []⟩) R s := by
  have hDw : D ∉ wr := fun h => hDf (W.sub _ h)
  have hsub : ∀ b ∈ wr, b ∈ D :: wr := fun b hb => List.mem_cons_of_mem _ hb
  have keepD : ∀ {s s' : Shared} {kvs : List (K × Value)}, (∀ b o, b ∉ wr → s.heap.get? b = some o → s'.heap.get? b = some o) → s.heap.DictOf knd D kvs → s'.heap.DictOf knd D kvs := by
    intro s s' kvs hk hS
    obtain ⟨o, es, ep, ho, r⟩ := hS
    exact ⟨o, es, ep, hk D o hDw ho, r⟩
  intro k
  induction k with
  | zero =>
    intro i s hk hi hst hv hS hR
    have hin : i = n := by omega
    subst hin
    refine codeAny_builtin entry_loop ?_
    rw [Around.under_plainId plain_loop _]
    show wpAny _ A.in1 (pyNext (.ref I) >>= _) _ _ s
    refine wpAny_bind (W.done s _ _ hst fun s' hm => ?_)
    show wpAny _ A.in1 (Builtin.Dict.addKeywords D [] >>= _) _ _ s'
    exact wpAny_bind (wpAny_pure (wpAny_pure (hR s' (hm.mono hsub) (keepD hm.heap hS))))
  | succ k ih =>
    intro i s hk hi hst hv hS hR
    have hlt : i < n := by omega
    refine codeAny_builtin entry_loop ?_
    rw [Around.under_plainId plain_loop _]
    show wpAny _ A.in1 (pyNext (.ref I) >>= _) _ _ s
    refine wpAny_bind (W.item i s _ _ hlt hst fun v s' hP hst' hm => ?_)
    obtain ⟨b, rfl, hp, hbn⟩ := hv i v hP
    have hbw : b ∉ wr := fun z => hbn (hsub b z)
    have hS' := keepD hm.heap hS
    obtain ⟨o, key, m, ho, hc, hd, hk'⟩ := hp
    have ho' := hm.heap b o hbw ho
    have hT : s'.TypeIs (.ref b) "tuple" := ⟨o, ho', hc⟩
    show wpAny _ A.in1 (holding [Value.ref b] _ >>= _) _ _ s'
    refine wpAny_bind (wpAny_holding ?_)
    refine wpAny_bind ?_
    refine wpAny_tryCatch ?_
    unfold Builtin.Dict.pairItems
    refine wpAny_bind (wpAny_typeOf hT ?_)
    rw [if_pos (by decide)]
    refine wpAny_bind (wpAny_seqItems ho' hd ?_)
    refine wpAny_pure ?_
    show wpAny _ A.in1 (holding [key, (kv i).2] (dictSet D key (kv i).2)) _ _ s'
    refine wpAny_holding ?_
    have hlen := upTo_len kv i
    refine wpAny_dictSet_pairs (hsz := L2.leMil (by omega)) hk' hS' fun h' hD' hsb => ?_
    rw [← upTo_succ] at hD'
    refine wpAny_pure ⟨plainId_quiet plain_loop _, ?_⟩
    show codeAny _ A (.builtin "dict.update.loop" ⟨[.ref D, .ref I, rawInt ((i + 1 : Nat) : Int), .none], []⟩) R _
    refine ih (i + 1) _ (by omega) hlt (W.frame _ s' _ _ hst' (Nat.le_add_right _ _) fun c hc' o' e => ?_) (fun j v hj => ?_) hD' fun s'' hm'' hS'' => ?_
    · rw [hsb.2 c (fun h : c = D => hDf (by rw [← h]; exact hc'))]; exact e
    · obtain ⟨b2, e2, ⟨ob, key2, m2, h1, h2⟩, hn2⟩ := hv j v hj
      refine ⟨b2, e2, ⟨ob, key2, m2, ?_, h2⟩, hn2⟩
      exact (hsb.2 b2 (fun h : b2 = D => hn2 (by rw [h]; exact List.mem_cons_self))).trans (hm.heap b2 ob (fun z => hn2 (hsub b2 z)) h1)
    · refine hR s'' (Moved.trans W.gtrans ((hm.mono hsub).then_heap (Nat.le_add_right _ _) fun c o' hc' e => ?_) hm'') hS''
      rw [hsb.2 c (fun h : c = D => hc' (by rw [h]; exact List.mem_cons_self))]; exact e
end
section
variable {prog : Program} {w : World} {K : Type} [DecidableEq K] {knd : KeyKind prog w K} {A : Around} {E : Value → Shared → Prop} {s : Shared}
theorem call_dict_list {l : Addr} {items : Array Value} {kv : Nat → K × Value} {Q : Value → Shared → Prop} (hh : A.handled = none) (hl : ∃ o m, s.heap.get? l = some o ∧ o.cls = .type "list" ∧ o.dict = none ∧ o.data = .seq items m)
    (hi : ∀ (i : Nat) (v : Value), items[i]? = some v → ∃ b, v = .ref b ∧ PairAt knd s.heap b (kv i)) (hb : items.size ≤ 1000)
    (h : ∀ (h' : Heap) (tk : Nat), h'.DictOf knd s.heap.objs.size (upTo kv items.size) → (∀ b o, s.heap.get? b = some o → h'.get? b = some o) → Q (.ref s.heap.objs.size) { s with heap := h', toks := tk }) :
    wpAny (model prog w) A (call (.type "dict") [.ref l]) Q E s := by
  obtain ⟨ol, ml, hol, hcl, hdl, hsl⟩ := hl
  refine callType_codes (Q₁ := fun obj s₁ => obj = .ref s.heap.objs.size ∧ s₁ = { s with heap := s.heap.push { cls := .type "dict", data := .dict #[] } }) F.kt_called_dict (F.kt_typeCall_dict_1 _) F.entry_dict_init (kt_code_dict_new _ ⟨rfl, rfl⟩) ?_
  rintro obj s₁ ⟨rfl, rfl⟩
  have hnew : (s.heap.push { cls := .type "dict", data := .dict #[] }).DictOf knd s.heap.objs.size [] := Heap.DictOf.new s.heap
  have hol' : (s.heap.push { cls := .type "dict", data := .dict #[] }).get? l = some ol := Heap.get?_push_of_some _ hol
  refine ⟨hnew.typeIs, F.args_dict_init_2 _ _, ?_⟩
  unfold Builtin.«dict.__init__»
  refine wpAny_bind ?_
  unfold Builtin.Dict.selfAndRest
  refine wpAny_bind (wpAny_notOrdered_dict hnew.typeIs ?_)
  show wpAny _ _ (pure (s.heap.objs.size, [Value.ref l])) _ _ _
  refine wpAny_pure ?_
  show wpAny _ _ (Builtin.Dict.updateFrom "dict.__init__" s.heap.objs.size (.ref l) [] .none) _ _ _
  unfold Builtin.Dict.updateFrom
  refine wpAny_bind (wpAny_typeOf (show Shared.TypeIs _ (.ref l) "list" from ⟨ol, hol', hcl⟩) ?_)
  rw [if_pos (by decide)]
  refine wpAny_bind (keys_miss_list hol' hcl hsl hdl (by simp [hh]) fun h1 tk1 k1 => ?_)
  rw [if_pos (show (Option.isNone (none : Option Value)) = true from rfl)]
  refine wpAny_bind (wpAny_rule ?_)
  have hol1 := k1 _ _ hol'
  have hl1 : h1.IsList l items := ⟨ol, hol1, hcl, ml, hsl⟩
  refine wpAny_bind (wpAny_pyIter_list hl1 ?_)
  have hD1 : ∀ o, s.heap.get? s.heap.objs.size = some o → False := fun o e => absurd (Heap.lt_size e) (Nat.lt_irrefl _)
  have hDI : s.heap.objs.size < h1.objs.size := by
    obtain ⟨o, _, _, ho, _⟩ := hnew
    exact Heap.lt_size (k1 _ _ ho)
  have hlI : l < h1.objs.size := Heap.lt_size hol1
  have hlD : l < s.heap.objs.size := Heap.lt_size hol
  have up : ∀ b o, s.heap.get? b = some o → (h1.push { cls := .type "list_iterator", data := .fields #[.ref l, .int 0 0] }).get? b = some o := fun b o e => Heap.get?_push_of_some _ (k1 _ _ (Heap.get?_push_of_some _ e))
  refine wpAny_pure ⟨plainId_quiet plain_loop _, ?_⟩
  have hh2 : A.in1.in1.handled = none := by simp [hh]
  refine loop (knd := knd) ((Walks.list hh2 h1.objs.size l (Nat.ne_of_lt hlI) items).toS) s.heap.objs.size ?hf kv hb (items.size - 0) 0 _ (by omega) (Nat.zero_le _)
    ⟨⟨_, Heap.get?_push_size _ rfl, rfl, rfl⟩, (hl1.push _)⟩ (fun i v hv => ?hval) ?hS0 ?hR
  case hf =>
    simp only [List.mem_cons, List.mem_singleton, List.not_mem_nil, or_false, not_or]
    exact ⟨Nat.ne_of_lt hDI, Nat.ne_of_gt hlD⟩
  case hval =>
    obtain ⟨b, e, o, key, m, h1', h2'⟩ := hi i v hv
    have hbs : b < s.heap.objs.size := Heap.lt_size h1'
    refine ⟨b, e, ⟨o, key, m, up _ _ h1', h2'⟩, ?_⟩
    simp only [List.mem_cons, List.mem_singleton, List.not_mem_nil, or_false, not_or]
    exact ⟨Nat.ne_of_lt hbs, Nat.ne_of_lt (Nat.lt_trans hbs hDI)⟩
  case hS0 =>
    obtain ⟨o, es, ep, ho, r⟩ := hnew
    exact ⟨o, es, ep, Heap.get?_push_of_some _ (k1 _ _ ho), r⟩
  case hR =>
    intro s' hm hS'
    obtain ⟨h', g', d', tk', os'⟩ := s'
    have eg : g' = s.gens := hm.gens
    have ed : d' = s.drawn := hm.drawn
    have eo : os' = s.os := hm.os
    subst eg; subst ed; subst eo
    refine ⟨rfl, h h' tk' hS' fun b o e => ?_⟩
    have hbs : b < s.heap.objs.size := Heap.lt_size e
    exact hm.heap b o (by simp only [List.mem_cons, List.mem_singleton, List.not_mem_nil, or_false, not_or]; exact ⟨Nat.ne_of_lt hbs, Nat.ne_of_lt (Nat.lt_trans hbs hDI)⟩) (up b o e)
end
end DictL
set_option Elab.async false
set_option linter.all false
set_option maxRecDepth 100000
set_option maxHeartbeats 4000000
namespace L2
open PySem PySem.Spec PyProof.Rows
def nV : Option Int → V
  | Option.none => .non
  | some i => .int i
theorem nV_is {P : Program} {w : World} {k : Option Int} {u : Value} (r : RelV (nV k) u) : (nKind P w).is k u = true := by
  cases k with
  | none => cases (show u = Value.none from r); rfl
  | some i =>
    obtain ⟨t, rfl⟩ := (show ∃ t, u = Value.int i t from r)
    show Value.isInt i (.int i t) = true
    simp [Value.isInt]
def dnHO (P : Program) (w : World) (a : Addr) (kvs : List (Option Int × V)) : HO := .ext fun h => kvs.length ≤ sizeLine ∧ (a == sysModules) = false ∧ ∃ vs, KV kvs vs ∧ h.DictOf (nKind P w) a vs
theorem dn_ok {P : Program} {w : World} {H : Hp} {h : Heap} {a : Addr} {kvs : List (Option Int × V)} {vs : List (Option Int × Value)} (z : kvs.length ≤ sizeLine) (hd : (a == sysModules) = false) (rel : KV kvs vs) (dd : h.DictOf (nKind P w) a vs) : ObjOk P w H h a (dnHO P w a kvs) := by
  refine ⟨⟨z, hd, vs, rel, dd⟩, let ⟨o, _, _, ho, _⟩ := dd; ⟨o, ho⟩, fun h1 h2 x k => ?_⟩
  obtain ⟨z1, z2, vs', r', o, es, ep, ho, r⟩ := x
  exact ⟨z1, z2, vs', r', o, es, ep, k o ho, r⟩
section
variable {X : Cx}
theorem dn_of {pins : List (Addr × Obj)} {σ : St} {H : Hp} {s : Shared} {a : Addr} {kvs : List (Option Int × V)} (I : Inv X pins σ H s) (e : H a = some (dnHO X.prog X.w a kvs)) : kvs.length ≤ sizeLine ∧ (a == sysModules) = false ∧ ∃ vs, KV kvs vs ∧ s.heap.DictOf (nKind X.prog X.w) a vs := (I.hok a _ e).1
def tDNewN (P : Program) (w : World) : TE := fun _ H Q => ∀ p H', H p = none → Same H H' → H' p = some (dnHO P w p []) → Q (.ref p) H'
theorem pe_dnewN {pos : Pos} : PE X (.Dict [] [] pos) (tDNewN X.prog X.w) := fun pins s σ H Q I h =>
  wpAny_Dict_empty ⟨.ref s.heap.objs.size, _, I.laid (a := s.heap.objs.size) (o := dnHO X.prog X.w s.heap.objs.size []) (t' := s.toks) (fun _ _ q => Heap.get?_push_of_some _ q) (Nat.le_refl _)
    (dn_ok (Nat.zero_le _) (beq_eq_false_iff_ne.mpr (Ne.symm (Nat.ne_of_lt I.big))) .nil (Heap.DictOf.new s.heap)), rfl, h _ _ (I.hok.fresh (Nat.le_refl _)) (same_add (I.hok.fresh (Nat.le_refl _))) upd_same⟩
def tDNotInN (P : Program) (w : World) (ty td : TE) : TE := fun σ H Q => ty σ H fun y H1 => td σ H1 fun x H2 => ∃ a kvs k, x = .ref a ∧ y = nV k ∧ H2 a = some (dnHO P w a kvs) ∧ Q (.bl (!(valV kvs k).isSome)) H2
theorem pc_dnotinN {i o : Expr} {ty td : TE} (hi : PE X i ty) (ho : PE X o td) : PC X .NotIn i o (tDNotInN X.prog X.w ty td) := by
  intro pins s σ H Q I h
  refine thn (hi pins s σ H _ I h) fun iv s1 ⟨y, H1, I1, ry, q1⟩ => thn (ho pins s1 σ H1 _ I1 q1) fun u s2 ⟨x, H2, I2, rx, a, kvs, k, ex, ey, e, q2⟩ => ?_
  subst ex ey
  obtain rfl : u = Value.ref a := rx
  obtain ⟨z, hd, vs, rel, dd⟩ := dn_of I2 e
  refine wpAny_notIn_of (nV_is ry) hd dd.mapOf ?_
  rw [← (rel.val k).isSome_eq]
  exact ⟨.bl (!(valV kvs k).isSome), H2, I2.tok _, rfl, q2⟩
def sDPutN (P : Program) (w : World) (td ty tv : TE) : TS := fun D σ H => tv σ H fun v H1 => td σ H1 fun x H2 => ty σ H2 fun y H3 => ∃ a kvs k, x = .ref a ∧ y = nV k ∧ H3 a = some (dnHO P w a kvs) ∧ kvs.length < 100000 ∧ D.nx σ (upd H3 a (dnHO P w a (putK kvs k v)))
theorem ps_dputN {o i value : Expr} {td ty tv : TE} {pos pos' : Pos} (ho : PE X o td) (hi : PE X i ty) (hv : PE X value tv) (hs : swapsWith value (some (.Subscript o i pos')) pos.line X.env = pure false) :
    PS X (.Assign [.Subscript o i pos'] value pos) (sDPutN X.prog X.w td ty tv) := by
  intro pins s σ H D I h
  refine wpAny_Assign_Subscript (thn (hv pins s σ H _ I h) fun r s1 ⟨v, H1, I1, rv, q1⟩ => thn (ho pins s1 σ H1 _ I1 q1) fun u s2 ⟨x, H2, I2, rx, q2⟩ => thn (hi pins s2 σ H2 _ I2 q2) fun iv s3 ⟨y, H3, I3, ry, a, kvs, k, ex, ey, e, l, q3⟩ => ?_) hs
  subst ex ey
  obtain rfl : u = Value.ref a := rx
  obtain ⟨z, hd, vs, rel, dd⟩ := dn_of I3 e
  have hz : vs.length ≤ sizeLine := by rw [← rel.length]; exact z
  have hl : (putK kvs k v).length ≤ sizeLine := leMil (by have := length_putK kvs k v; omega)
  refine wpAny_setItem_pairs (hsz := hz) (nV_is ry) dd fun h' dd' hs' => ⟨σ, _, ?_, q3⟩
  have he : ∃ q, h'.get? a = some q := let ⟨q, _, _, hq, _⟩ := dd'; ⟨q, hq⟩
  exact d_write I3 (by rw [e]; exact True.intro) hs' he (dn_ok hl hd (rel.put k rv) dd')
end
end L2
set_option Elab.async false
set_option linter.all false
set_option maxRecDepth 100000
set_option maxHeartbeats 4000000
namespace L2
open PySem PySem.Spec PyProof.Rows
theorem same_new {H : Hp} {d : Addr} {o : HO} (h : H d = Option.none) : Same H (upd H d o) := fun b u e => by rw [upd_ne (ne_of_none e h)]; exact e
theorem Same.none {H H' : Hp} (s : Same H H') {d : Addr} (h : H' d = Option.none) : H d = Option.none := by
  cases z : H d with
  | none => rfl
  | some o => rw [s d o z] at h; cases h
theorem Same.wr {H H' : Hp} (s : Same H H') {d : Addr} {o : HO} (h : H d = Option.none) : Same H (upd H' d o) := fun b u e => by rw [upd_ne (ne_of_none e h)]; exact s b u e
end L2
namespace My
open PySem L2
theorem bLen : bootBuiltins "len" = some (.builtin "len") := by decide +kernel
theorem bIsi : bootBuiltins "isinstance" = some (.builtin "isinstance") := by decide +kernel
theorem bInt : bootBuiltins "int" = some (.type "int") := by decide +kernel
theorem bBool : bootBuiltins "bool" = some (.type "bool") := by decide +kernel
theorem bTuple : bootBuiltins "tuple" = some (.type "tuple") := by decide +kernel
theorem bDict : bootBuiltins "dict" = some (.type "dict") := by decide +kernel
structure Bi (mg : Str → Option Value) : Prop where
  len : mg "len" = none
  isi : mg "isinstance" = none
  int : mg "int" = none
  bool : mg "bool" = none
  tuple : mg "tuple" = none
  list : mg "list" = none
  range : mg "range" = none
  max : mg "max" = none
  min : mg "min" = none
  zip : mg "zip" = none
  dict : mg "dict" = none
theorem kit (K : PySem.W.Frag) (T U : String) (b : Bool) (h : PySem.W.kitOne [] (.type T) (.type U) = some b) : PySem.W.kitOne K (.type T) (.type U) = some b := h
def TieOk (H : Hp) (n : Int) (t : V) : Prop := ∃ q i j, t = V.ref q ∧ H q = some (.tup [.int i, .int j]) ∧ 0 ≤ i ∧ i < n ∧ 0 ≤ j ∧ j < n ∧ i ≠ j
def Ties (H : Hp) (n : Int) (ts : List V) : Prop := ∀ t ∈ ts, TieOk H n t
theorem TieOk.same {H H' : Hp} {n : Int} {t : V} (h : TieOk H n t) (k : Same H H') : TieOk H' n t := let ⟨q, i, j, a, b, c⟩ := h; ⟨q, i, j, a, k _ _ b, c⟩
theorem Ties.same {H H' : Hp} {n : Int} {ts : List V} (h : Ties H n ts) (k : Same H H') : Ties H' n ts := fun t ht => (h t ht).same k
structure NetZ (H : Hp) (p : Addr) (n : Nat) (q : Addr) (ts : List V) (es : List (Nat × Nat)) : Prop where
  e1 : H p = some (.tup [.int (n : Int), .ref q])
  e2 : H q = some (.tup ts)
  len : ts.length = es.length
  tie : ∀ (i : Nat) t, ts[i]? = some t → ∃ a, t = V.ref a ∧ H a = some (.tup [.int ((es.getD i (0, 0)).1 : Int), .int ((es.getD i (0, 0)).2 : Int)])
  l200 : es.length ≤ 200
  n60 : n ≤ 60
  ok : ∀ e ∈ es, e.1 < n ∧ e.2 < n ∧ e.1 ≠ e.2
theorem NetZ.same {H H' : Hp} {p q : Addr} {n : Nat} {ts : List V} {es : List (Nat × Nat)} (h : NetZ H p n q ts es) (k : Same H H') : NetZ H' p n q ts es :=
  ⟨k _ _ h.e1, k _ _ h.e2, h.len, fun i t e => let ⟨a, x, y⟩ := h.tie i t e; ⟨a, x, k _ _ y⟩, h.l200, h.n60, h.ok⟩
theorem NetZ.at' {H : Hp} {p q : Addr} {n : Nat} {ts : List V} {es : List (Nat × Nat)} (h : NetZ H p n q ts es) {k : Nat} (hk : k < es.length) : ∃ a, ts[k]? = some (.ref a) ∧ H a = some (.tup [.int ((es.getD k (0, 0)).1 : Int), .int ((es.getD k (0, 0)).2 : Int)]) := by
  have hk' : k < ts.length := by rw [h.len]; exact hk
  obtain ⟨a, x, y⟩ := h.tie k _ (List.getElem?_eq_getElem hk')
  exact ⟨a, by rw [List.getElem?_eq_getElem hk', x], y⟩
theorem ties_es {H : Hp} {n : Int} : ∀ {ts : List V}, Ties H n ts → ∃ es : List (Nat × Nat), ts.length = es.length ∧ (∀ (i : Nat) t, ts[i]? = some t → ∃ a, t = V.ref a ∧ H a = some (.tup [.int ((es.getD i (0, 0)).1 : Int), .int ((es.getD i (0, 0)).2 : Int)])) ∧ ∀ e ∈ es, (e.1 : Int) < n ∧ (e.2 : Int) < n ∧ e.1 ≠ e.2
  | [], _ => ⟨[], rfl, (fun i t e => by rw [List.getElem?_nil] at e; cases e), fun e h => by cases h⟩
  | t :: ts, h => by
    obtain ⟨es, h1, h2, h3⟩ := ties_es (ts := ts) fun u hu => h u (.tail _ hu)
    obtain ⟨q, i, j, rfl, hq, b1, b2, b3, b4, b5⟩ := h t (.head _)
    refine ⟨(i.toNat, j.toNat) :: es, by rw [List.length_cons, List.length_cons, h1], fun k u e => ?_, fun e he => ?_⟩
    · cases k with
      | zero =>
        rw [List.getElem?_cons_zero] at e
        cases e
        refine ⟨q, rfl, ?_⟩
        show H q = some (.tup [.int ((i.toNat : Nat) : Int), .int ((j.toNat : Nat) : Int)])
        rw [Int.toNat_of_nonneg b1, Int.toNat_of_nonneg b3]
        exact hq
      | succ k =>
        rw [List.getElem?_cons_succ] at e
        obtain ⟨a, x, y⟩ := h2 k u e
        exact ⟨a, x, by rw [y]; rfl⟩
    · cases he with
      | head =>
        show ((i.toNat : Nat) : Int) < n ∧ ((j.toNat : Nat) : Int) < n ∧ i.toNat ≠ j.toNat
        omega
      | tail _ he => exact h3 e he
theorem netZ_of {H : Hp} {p q : Addr} {n m : Int} {ts : List V} (e1 : H p = some (.tup [.int m, .ref q])) (e2 : H q = some (.tup ts)) (l : ts.length ≤ 200) (hT : Ties H n ts) (h0 : 0 ≤ m) (h60 : m ≤ 60) (hnm : n ≤ m) : ∃ es, NetZ H p m.toNat q ts es := by
  obtain ⟨es, h1, h2, h3⟩ := ties_es hT
  exact ⟨es, by rw [Int.toNat_of_nonneg h0]; exact e1, e2, h1, h2, by omega, by omega, fun e he => by obtain ⟨a, b, c⟩ := h3 e he; exact ⟨by omega, by omega, c⟩⟩
def nl (l : List Nat) : List V := l.map fun x : Nat => V.int (x : Int)
theorem nl_len (l : List Nat) : (nl l).length = l.length := by unfold nl; rw [List.length_map]
def tN : Option Nat → V
  | none => .non
  | some t => .int (t : Int)
def tv (tl : List (Option Nat)) : List V := tl.map tN
theorem tv_len (tl : List (Option Nat)) : (tv tl).length = tl.length := by unfold tv; rw [List.length_map]
theorem tv_get {tl : List (Option Nat)} {i : Nat} {o : Option Nat} (h : tl[i]? = some o) : (tv tl)[i]? = some (tN o) := by unfold tv; rw [List.getElem?_map, h]; rfl
theorem tv_inv {tl : List (Option Nat)} {i : Nat} {x : V} (h : (tv tl)[i]? = some x) : ∃ o, tl[i]? = some o ∧ x = tN o := by
  unfold tv at h
  rw [List.getElem?_map] at h
  cases e : tl[i]? with
  | none => rw [e] at h; cases h
  | some o => rw [e] at h; cases h; exact ⟨o, rfl, rfl⟩
end My
set_option Elab.async false
set_option linter.all false
set_option maxRecDepth 100000
set_option maxHeartbeats 4000000
namespace My
open PySem L2
def At (e : Nat × Nat) (p : Nat) : Prop := p = e.1 ∨ p = e.2
def Used (es : List (Nat × Nat)) (tl : List (Option Nat)) (k p t : Nat) : Prop := ∃ j, j < k ∧ tl[j]? = some (some t) ∧ At (es.getD j (0, 0)) p
def CleanTo (es : List (Nat × Nat)) (tl : List (Option Nat)) (k : Nat) : Prop := ∀ i j t, j < i → i < k → tl[i]? = some (some t) → tl[j]? = some (some t) → ∀ p, At (es.getD i (0, 0)) p → ¬ At (es.getD j (0, 0)) p
theorem CleanTo.zero (es : List (Nat × Nat)) (tl : List (Option Nat)) : CleanTo es tl 0 := fun i j t _ h => absurd h (Nat.not_lt_zero _)
theorem Used.zero {es : List (Nat × Nat)} {tl : List (Option Nat)} {p t : Nat} : ¬ Used es tl 0 p t := fun ⟨j, h, _⟩ => absurd h (Nat.not_lt_zero _)
theorem Used.succ {es : List (Nat × Nat)} {tl : List (Option Nat)} {k p t : Nat} : Used es tl (k + 1) p t ↔ Used es tl k p t ∨ (tl[k]? = some (some t) ∧ At (es.getD k (0, 0)) p) := by
  constructor
  · rintro ⟨j, h, a, b⟩
    by_cases e : j = k
    · subst e; exact .inr ⟨a, b⟩
    · exact .inl ⟨j, by omega, a, b⟩
  · rintro (⟨j, h, a, b⟩ | ⟨a, b⟩)
    · exact ⟨j, by omega, a, b⟩
    · exact ⟨k, by omega, a, b⟩
theorem CleanTo.succ {es : List (Nat × Nat)} {tl : List (Option Nat)} {k : Nat} (h : CleanTo es tl k) (hk : ∀ t, tl[k]? = some (some t) → ∀ p, At (es.getD k (0, 0)) p → ¬ Used es tl k p t) : CleanTo es tl (k + 1) := by
  intro i j t hj hi h1 h2 p hp hq
  by_cases e : i = k
  · subst e
    exact hk t h1 p hp ⟨j, hj, h2, hq⟩
  · exact h i j t hj (by omega) h1 h2 p hp hq
end My
set_option Elab.async false
set_option linter.all false
set_option maxRecDepth 100000
set_option maxHeartbeats 400000
namespace Cs
abbrev Tl := List (Option Nat)
def mtB (es : List (Nat × Nat)) (k j : Nat) : Bool := (es.getD k (0, 0)).1 == (es.getD j (0, 0)).1 || (es.getD k (0, 0)).1 == (es.getD j (0, 0)).2 || (es.getD k (0, 0)).2 == (es.getD j (0, 0)).1 || (es.getD k (0, 0)).2 == (es.getD j (0, 0)).2
theorem mtB_comm (es : List (Nat × Nat)) (k j : Nat) : mtB es k j = mtB es j k := by
  unfold mtB
  rw [Bool.eq_iff_iff]
  simp only [Bool.or_eq_true, beq_iff_eq]
  constructor
  · rintro (((h | h) | h) | h)
    · exact .inl (.inl (.inl h.symm))
    · exact .inl (.inr h.symm)
    · exact .inl (.inl (.inr h.symm))
    · exact .inr h.symm
  · rintro (((h | h) | h) | h)
    · exact .inl (.inl (.inl h.symm))
    · exact .inl (.inr h.symm)
    · exact .inl (.inl (.inr h.symm))
    · exact .inr h.symm
def tak (es : List (Nat × Nat)) (tl : Tl) (k x : Nat) : Bool := (List.range tl.length).any fun j => mtB es k j && (tl.getD j none == some x)
def lft (es : List (Nat × Nat)) (bs : List (List Nat)) (m : Nat) (tl : Tl) (k : Nat) : List Nat := (List.range m).filter fun x => !(bs.getD k []).contains x && !tak es tl k x
def bare (tl : Tl) : List Nat := (List.range tl.length).filter fun k => tl.getD k none == none
def lfs (es : List (Nat × Nat)) (bs : List (List Nat)) (m : Nat) (tl : Tl) : List (Nat × List Nat) := (bare tl).map fun k => (k, lft es bs m tl k)
def stp (b : Option (Nat × List Nat)) (p : Nat × List Nat) : Option (Nat × List Nat) :=
  match b with
  | none => some p
  | some q => if p.2.length < q.2.length then some p else some q
theorem rev_ind {α : Type} {P : List α → Prop} (h0 : P []) (hs : ∀ l a, P l → P (l ++ [a])) (l : List α) : P l := by
  have : ∀ l : List α, P l.reverse := fun l => by
    induction l with
    | nil => exact h0
    | cons a l ih => rw [List.reverse_cons]; exact hs _ _ ih
  rw [← List.reverse_reverse l]
  exact this _
def best (l : List (Nat × List Nat)) : Option (Nat × List Nat) := l.foldl stp none
theorem stp_some (b : Option (Nat × List Nat)) (p : Nat × List Nat) : ∃ q, stp b p = some q := by
  cases b with
  | none => exact ⟨_, rfl⟩
  | some q => unfold stp; dsimp only; split <;> exact ⟨_, rfl⟩
theorem best_snoc (l : List (Nat × List Nat)) (p : Nat × List Nat) : best (l ++ [p]) = stp (best l) p := by unfold best; rw [List.foldl_append]; rfl
theorem best_none {l : List (Nat × List Nat)} : best l = none ↔ l = [] := by
  constructor
  · intro h
    rcases List.eq_nil_or_concat l with rfl | ⟨l', p, rfl⟩
    · rfl
    · rw [List.concat_eq_append, best_snoc] at h
      obtain ⟨q, hq⟩ := stp_some (best l') p
      rw [hq] at h; cases h
  · rintro rfl; rfl
theorem best_mem {l : List (Nat × List Nat)} : ∀ {q : Nat × List Nat}, best l = some q → q ∈ l := by
  refine rev_ind (P := fun l => ∀ {q : Nat × List Nat}, best l = some q → q ∈ l) (fun {q} h => by cases h) (fun l p ih {q} h => ?_) l
  rw [best_snoc] at h
  cases hb : best l with
  | none => rw [hb] at h; cases h; exact List.mem_append_right _ (.head _)
  | some r =>
    rw [hb] at h
    unfold stp at h
    dsimp only at h
    split at h
    · cases h; exact List.mem_append_right _ (.head _)
    · cases h; exact List.mem_append_left _ (ih hb)
theorem best_of {l : List (Nat × List Nat)} : ∀ {i : Nat} {q : Nat × List Nat}, l[i]? = some q → (∀ (j : Nat) p, l[j]? = some p → q.2.length ≤ p.2.length ∧ (j < i → q.2.length < p.2.length)) → best l = some q := by
  refine rev_ind (P := fun l => ∀ {i : Nat} {q : Nat × List Nat}, l[i]? = some q → (∀ (j : Nat) p, l[j]? = some p → q.2.length ≤ p.2.length ∧ (j < i → q.2.length < p.2.length)) → best l = some q) (fun {i q} h _ => by cases h) (fun l p ih {i q} h hm => ?_) l
  rw [best_snoc]
  by_cases hi : i < l.length
  · rw [List.getElem?_append_left hi] at h
    rw [ih h fun j p' hj => hm j p' (by rw [List.getElem?_append_left (List.getElem?_eq_some_iff.mp hj).1]; exact hj)]
    have := (hm l.length p (by rw [List.getElem?_append_right (Nat.le_refl _), Nat.sub_self]; rfl)).1
    unfold stp
    dsimp only
    rw [if_neg (by omega)]
  · have e := (List.getElem?_eq_some_iff.mp h).1
    rw [List.length_append] at e
    have e2 : i = l.length := by simp only [List.length_cons, List.length_nil] at e; omega
    subst e2
    rw [List.getElem?_append_right (Nat.le_refl _), Nat.sub_self] at h
    cases h
    cases hb : best l with
    | none => rfl
    | some r =>
      obtain ⟨j, hj⟩ := List.getElem?_of_mem (best_mem hb)
      have hjl := (List.getElem?_eq_some_iff.mp hj).1
      have := (hm j r (by rw [List.getElem?_append_left hjl]; exact hj)).2 hjl
      unfold stp
      dsimp only
      rw [if_pos this]
theorem getD_set {tl : Tl} {t j : Nat} {o : Option Nat} (ht : t < tl.length) : (tl.set t o).getD j none = if j = t then o else tl.getD j none := by
  rw [List.getD_eq_getElem?_getD, List.getD_eq_getElem?_getD, List.getElem?_set]
  by_cases h : t = j
  · subst h; rw [if_pos rfl, if_pos ht, if_pos rfl]; rfl
  · rw [if_neg h, if_neg (Ne.symm h)]
theorem tak_iff {es : List (Nat × Nat)} {tl : Tl} {k x : Nat} : tak es tl k x = true ↔ ∃ j, j < tl.length ∧ mtB es k j = true ∧ tl.getD j none = some x := by
  unfold tak
  rw [List.any_eq_true]
  constructor
  · rintro ⟨j, hj, h⟩
    rw [Bool.and_eq_true, beq_iff_eq] at h
    exact ⟨j, List.mem_range.mp hj, h⟩
  · rintro ⟨j, hj, h1, h2⟩
    exact ⟨j, List.mem_range.mpr hj, by rw [Bool.and_eq_true, beq_iff_eq]; exact ⟨h1, h2⟩⟩
theorem tak_set {es : List (Nat × Nat)} {tl : Tl} {t k x y : Nat} (ht : t < tl.length) (hb : tl.getD t none = none) : tak es (tl.set t (some x)) k y = (tak es tl k y || (mtB es k t && (y == x))) := by
  rw [Bool.eq_iff_iff, Bool.or_eq_true, tak_iff, tak_iff, Bool.and_eq_true, beq_iff_eq]
  constructor
  · rintro ⟨j, hj, h1, h2⟩
    rw [List.length_set] at hj
    rw [getD_set ht] at h2
    by_cases e : j = t
    · subst e; rw [if_pos rfl] at h2; exact .inr ⟨h1, (Option.some.inj h2).symm⟩
    · rw [if_neg e] at h2; exact .inl ⟨j, hj, h1, h2⟩
  · rintro (⟨j, hj, h1, h2⟩ | ⟨h1, rfl⟩)
    · refine ⟨j, by rw [List.length_set]; exact hj, h1, ?_⟩
      rw [getD_set ht, if_neg fun e => by rw [e, hb] at h2; cases h2]
      exact h2
    · exact ⟨t, by rw [List.length_set]; exact ht, h1, by rw [getD_set ht, if_pos rfl]⟩
theorem lft_set {es : List (Nat × Nat)} {bs : List (List Nat)} {m : Nat} {tl : Tl} {t k x : Nat} (ht : t < tl.length) (hb : tl.getD t none = none) : lft es bs m (tl.set t (some x)) k = if mtB es t k then (lft es bs m tl k).filter (fun y => y != x) else lft es bs m tl k := by
  unfold lft
  split
  · next h =>
    rw [List.filter_filter]
    refine List.filter_congr fun y _ => ?_
    rw [tak_set ht hb, mtB_comm es k t, h]
    cases (bs.getD k []).contains y <;> cases tak es tl k y <;> cases hyx : (y == x) <;> simp [bne, hyx]
  · next h =>
    refine List.filter_congr fun y _ => ?_
    rw [tak_set ht hb, mtB_comm es k t, Bool.eq_false_iff.mpr h]
    simp
theorem bare_set {tl : Tl} {t x : Nat} (ht : t < tl.length) : bare (tl.set t (some x)) = (bare tl).filter (fun k => k != t) := by
  unfold bare
  rw [List.length_set, List.filter_filter]
  refine List.filter_congr fun k _ => ?_
  rw [getD_set ht]
  by_cases h : k = t
  · subst h; simp
  · rw [if_neg h]; simp [h]
theorem lfs_set {es : List (Nat × Nat)} {bs : List (List Nat)} {m : Nat} {tl : Tl} {t x : Nat} (ht : t < tl.length) (hb : tl.getD t none = none) :
    lfs es bs m (tl.set t (some x)) = ((lfs es bs m tl).filter fun p => p.1 != t).map fun p => (p.1, if mtB es t p.1 then p.2.filter (fun y => y != x) else p.2) := by
  unfold lfs
  rw [bare_set ht, List.filter_map, List.map_map]
  refine List.map_congr_left fun k _ => ?_
  show (k, _) = (k, _)
  rw [lft_set ht hb]
theorem bare_mem {tl : Tl} {k : Nat} : k ∈ bare tl ↔ k < tl.length ∧ tl.getD k none = none := by
  unfold bare
  rw [List.mem_filter, List.mem_range, beq_iff_eq]
theorem bare_nd (tl : Tl) : (bare tl).Nodup := List.nodup_range.filter _
theorem bare_len {tl : Tl} {t x : Nat} (h : t ∈ bare tl) : (bare (tl.set t (some x))).length + 1 = (bare tl).length := by
  rw [bare_set (bare_mem.mp h).1]
  have key : ∀ l : List Nat, l.Nodup → t ∈ l → (l.filter (fun k => k != t)).length + 1 = l.length := by
    intro l
    induction l with
    | nil => intro _ h; cases h
    | cons a l ih =>
      intro hn hm
      obtain ⟨h1, h2⟩ := List.nodup_cons.mp hn
      rw [List.filter_cons]
      by_cases e : a = t
      · subst e
        rw [if_neg (by simp)]
        have : l.filter (fun k => k != a) = l := List.filter_eq_self.mpr fun k hk => by
          simp only [bne_iff_ne]
          exact fun z => h1 (z ▸ hk)
        rw [this]; rfl
      · rw [if_pos (by simpa using e)]
        have := ih h2 ((List.mem_cons.mp hm).resolve_left (Ne.symm e))
        simp only [List.length_cons]
        omega
  exact key _ (bare_nd tl) h
theorem best_in {es : List (Nat × Nat)} {bs : List (List Nat)} {m : Nat} {tl : Tl} {t : Nat} {ls : List Nat} (h : best (lfs es bs m tl) = some (t, ls)) : t ∈ bare tl ∧ t < tl.length ∧ tl.getD t none = none ∧ ls = lft es bs m tl t := by
  obtain ⟨k, hk, e⟩ := List.mem_map.mp (best_mem h)
  cases e
  exact ⟨hk, (bare_mem.mp hk).1, (bare_mem.mp hk).2, rfl⟩
theorem best_full {es : List (Nat × Nat)} {bs : List (List Nat)} {m : Nat} {tl : Tl} (h : best (lfs es bs m tl) = none) : ∀ k, k < tl.length → ∃ x, tl[k]? = some (some x) := by
  intro k hk
  have h1 : bare tl = [] := List.map_eq_nil_iff.mp (best_none.mp h)
  have h2 : ¬ k ∈ bare tl := by rw [h1]; exact List.not_mem_nil
  rw [List.getElem?_eq_getElem hk]
  cases e : tl[k] with
  | none => exact absurd (bare_mem.mpr ⟨hk, by rw [List.getD_eq_getElem?_getD, List.getElem?_eq_getElem hk, e]; rfl⟩) h2
  | some x => exact ⟨x, rfl⟩
def br (g : Tl → Option Tl × Nat) (tl : Tl) (t : Nat) : List Nat → Nat → Option Tl × Nat
  | [], c => (none, c)
  | x :: xs, c => match g (tl.set t (some x)) with
    | (some r, k) => (some r, c + k)
    | (none, k) => br g tl t xs (c + k)
def go (es : List (Nat × Nat)) (bs : List (List Nat)) (m : Nat) : Nat → Tl → Option Tl × Nat
  | 0, tl => (some tl, 1)
  | n + 1, tl => match best (lfs es bs m tl) with
    | none => (some tl, 1)
    | some (t, ls) => br (go es bs m n) tl t ls 1
theorem go_none {es : List (Nat × Nat)} {bs : List (List Nat)} {m n : Nat} {tl : Tl} (h : best (lfs es bs m tl) = none) : go es bs m n tl = (some tl, 1) := by
  cases n with
  | zero => rfl
  | succ n => unfold go; rw [h]
theorem go_some {es : List (Nat × Nat)} {bs : List (List Nat)} {m n : Nat} {tl : Tl} {t : Nat} {ls : List Nat} (h : best (lfs es bs m tl) = some (t, ls)) : go es bs m (n + 1) tl = br (go es bs m n) tl t ls 1 := by
  rw [go, h]
theorem br_le {g : Tl → Option Tl × Nat} {tl : Tl} {t : Nat} : ∀ (xs : List Nat) (c : Nat), c ≤ (br g tl t xs c).2
  | [], c => Nat.le_refl _
  | x :: xs, c => by
    unfold br
    split
    · next h => exact Nat.le_add_right _ _
    · next k h => exact Nat.le_trans (Nat.le_add_right _ _) (br_le xs (c + k))
theorem go_pos {es : List (Nat × Nat)} {bs : List (List Nat)} {m n : Nat} {tl : Tl} : 1 ≤ (go es bs m n tl).2 := by
  cases n with
  | zero => exact Nat.le_refl _
  | succ n =>
    cases h : best (lfs es bs m tl) with
    | none => rw [go_none h]; exact Nat.le_refl _
    | some q =>
      obtain ⟨t, ls⟩ := q
      rw [go_some h]
      exact br_le ls 1
structure Good (es : List (Nat × Nat)) (bs : List (List Nat)) (m : Nat) (tl : Tl) : Prop where
  len : tl.length = es.length
  own : ∀ k x, tl[k]? = some (some x) → x < m ∧ ¬ x ∈ bs.getD k []
  cln : ∀ i j x, i < j → tl[i]? = some (some x) → tl[j]? = some (some x) → mtB es i j = false
theorem Good.set {es : List (Nat × Nat)} {bs : List (List Nat)} {m : Nat} {tl : Tl} {t x : Nat} (g : Good es bs m tl) (ht : t < tl.length) (hx : x ∈ lft es bs m tl t) : Good es bs m (tl.set t (some x)) := by
  unfold lft at hx
  rw [List.mem_filter, List.mem_range, Bool.and_eq_true, Bool.not_eq_true', Bool.not_eq_true'] at hx
  obtain ⟨h1, h2, h3⟩ := hx
  have key : ∀ j, j ≠ t → tl[j]? = some (some x) → mtB es t j = false := fun j hj e => by
    cases h : mtB es t j with
    | false => rfl
    | true =>
      have hl := (List.getElem?_eq_some_iff.mp e).1
      rw [tak_iff.mpr ⟨j, hl, h, by rw [List.getD_eq_getElem?_getD, e]; rfl⟩] at h3
      cases h3
  have at_ : ∀ k y, (tl.set t (some x))[k]? = some (some y) → (k = t ∧ y = x) ∨ (k ≠ t ∧ tl[k]? = some (some y)) := fun k y e => by
    rw [List.getElem?_set] at e
    by_cases z : t = k
    · rw [if_pos z, if_pos ht] at e
      exact .inl ⟨z.symm, (Option.some.inj (Option.some.inj e)).symm⟩
    · rw [if_neg z] at e
      exact .inr ⟨Ne.symm z, e⟩
  refine ⟨by rw [List.length_set]; exact g.len, fun k y e => ?_, fun i j y hij e1 e2 => ?_⟩
  · rcases at_ k y e with ⟨rfl, rfl⟩ | ⟨_, e⟩
    · exact ⟨h1, fun z => by rw [List.contains_iff_mem.mpr z] at h2; cases h2⟩
    · exact g.own k y e
  · rcases at_ i y e1 with ⟨rfl, rfl⟩ | ⟨n1, e1⟩
    · rcases at_ j _ e2 with ⟨rfl, _⟩ | ⟨n2, e2⟩
      · omega
      · exact key j n2 e2
    · rcases at_ j y e2 with ⟨z1, z2⟩ | ⟨n2, e2⟩
      · rw [z1, mtB_comm]; exact key i n1 (by rw [← z2]; exact e1)
      · exact g.cln i j y hij e1 e2
theorem go_good {es : List (Nat × Nat)} {bs : List (List Nat)} {m : Nat} : ∀ (n : Nat) (tl r : Tl), (bare tl).length ≤ n → Good es bs m tl → (go es bs m n tl).1 = some r → Good es bs m r ∧ ∀ k, k < r.length → ∃ x, r[k]? = some (some x) := by
  intro n
  induction n with
  | zero =>
    intro tl r hb g h
    cases h
    refine ⟨g, best_full (es := es) (bs := bs) (m := m) ?_⟩
    rw [best_none]
    unfold lfs
    rw [List.eq_nil_of_length_eq_zero (Nat.le_zero.mp hb)]
    rfl
  | succ n ih =>
    intro tl r hb g h
    cases hq : best (lfs es bs m tl) with
    | none => rw [go_none hq] at h; cases h; exact ⟨g, best_full hq⟩
    | some q =>
      obtain ⟨t, ls⟩ := q
      rw [go_some hq] at h
      obtain ⟨b1, b2, b3, b4⟩ := best_in hq
      have key : ∀ (xs : List Nat) (c : Nat), (∀ x ∈ xs, x ∈ ls) → (br (go es bs m n) tl t xs c).1 = some r → Good es bs m r ∧ ∀ k, k < r.length → ∃ x, r[k]? = some (some x) := by
        intro xs
        induction xs with
        | nil => intro c _ h; cases h
        | cons x xs ihx =>
          intro c hx h
          unfold br at h
          split at h
          · next r' k hg =>
            cases h
            refine ih (tl.set t (some x)) r (by have := bare_len (x := x) b1; omega) (g.set b2 (by rw [← b4]; exact hx x (.head _))) (by rw [hg])
          · exact ihx _ (fun y hy => hx y (.tail _ hy)) h
      exact key ls 1 (fun _ h => h) h
end Cs
set_option Elab.async false
set_option linter.all false
set_option maxRecDepth 100000
set_option maxHeartbeats 4000000
namespace L2
open PySem PySem.Spec PyProof.Rows
theorem pc_dnotinNK {X : Cx} {P : Program} {w : World} {i o : Expr} {ty td : TE} (hP : X.prog = P) (hw : X.w = w) (hi : PE X i ty) (ho : PE X o td) : PC X .NotIn i o (tDNotInN P w ty td) := by
  subst hP
  cases hw
  exact pc_dnotinN hi ho
end L2
set_option Elab.async false
set_option linter.all false
set_option maxRecDepth 100000
set_option maxHeartbeats 1000000
namespace L2
open PySem PySem.Spec PyProof.Rows
section
variable {X : Cx} {pins : List (Addr × Obj)} {σ : St} {H : Hp} {s : Shared} {A : Around} {E : Value → Shared → Prop}
theorem Inv.freeze {d : Addr} {ob : Obj} {kvs : List (Key × V)} (I : Inv X pins σ H s) (hd : H d = some (.dK kvs)) (ho : s.heap.get? d = some ob) : Inv X pins σ (upd H d (.frz ob (.dK kvs))) s := by
  have ne : ∀ c u, H c = some u → (∀ ks, u ≠ .dK ks) → c ≠ d := fun c u q n z => by rw [z, hd] at q; exact n _ (Option.some.inj q).symm
  have no : ∀ c, H c = none → c ≠ d := fun c q z => by rw [z, hd] at q; cases q
  refine ⟨I.ok, I.os, I.bare, ⟨I.base.keep, I.base.slot, fun c o q n hx => ?_, I.base.there, fun c xs q => ?_, fun c o u q => ?_, fun c ps q => ?_⟩, I.loc, I.cell, ?_, fun x c q => ?_, fun p hp => ?_, fun c u q => ?_, I.len⟩
  · have z := I.base.free c o q n hx
    rw [upd_ne (no c z)]; exact z
  · have z := I.base.tups c xs q
    rw [upd_ne (ne c _ z fun ks => by simp)]; exact z
  · have z := I.base.frzs c o u q
    rw [upd_ne (ne c _ z fun ks => by simp)]; exact z
  · obtain ⟨more, z⟩ := I.base.tbls c ps q
    exact ⟨more, by rw [upd_ne (ne c _ z fun ks => by simp)]; exact z⟩
  · rw [upd_ne (no _ I.free)]; exact I.free
  · rw [upd_ne (no _ (I.freeC x c q))]; exact I.freeC x c q
  · obtain ⟨p1, p2, p3⟩ := I.pin p hp
    exact ⟨p1, by rw [upd_ne (no _ p2)]; exact p2, p3⟩
  · by_cases hc : c = d
    · subst hc; rw [upd_same] at q; cases q; exact ⟨ho, I.hok c _ hd⟩
    · rw [upd_ne hc] at q
      refine (I.hok c u q).stay (fun _ _ _ r => r) (fun e r => ?_) fun e xs r => ?_
      · rw [upd_ne (ne e _ r fun ks => by simp)]; exact r
      · rw [upd_ne (ne e _ r fun ks => by simp)]; exact r
theorem Inv.thaw {s' : Shared} {d : Addr} {ob : Obj} {kvs : List (Key × V)} (I0 : Inv X pins σ H s) (hd : H d = some (.dK kvs)) (I : Inv X pins σ (upd H d (.frz ob (.dK kvs))) s') : Inv X pins σ H s' := by
  have ne : ∀ c u, upd H d (.frz ob (.dK kvs)) c = some u → (∀ o v, u ≠ .frz o v) → H c = some u := fun c u q n => by
    by_cases z : c = d
    · rw [z, upd_same] at q; exact absurd (Option.some.inj q).symm (n _ _)
    · rw [upd_ne z] at q; exact q
  have no : ∀ c, upd H d (.frz ob (.dK kvs)) c = none → H c = none := fun c q => by
    by_cases z : c = d
    · rw [z, upd_same] at q; cases q
    · rw [upd_ne z] at q; exact q
  refine ⟨I.ok, I.os, I.bare, ⟨I.base.keep, I.base.slot, fun c o q n hx => no c (I.base.free c o q n hx), I.base.there, fun c xs q => ne c _ (I.base.tups c xs q) fun o v => by simp, fun c o u q => I0.base.frzs c o u q, fun c ps q => ?_⟩, I.loc, I.cell, no _ I.free, fun x c q => no _ (I.freeC x c q), fun p hp => ?_, fun c u q => ?_, I.len⟩
  · obtain ⟨more, z⟩ := I.base.tbls c ps q
    exact ⟨more, ne c _ z fun o v => by simp⟩
  · obtain ⟨p1, p2, p3⟩ := I.pin p hp
    exact ⟨p1, no _ p2, p3⟩
  · have st : ObjOk X.prog X.w (upd H d (.frz ob (.dK kvs))) s'.heap c u := by
      by_cases hc : c = d
      · subst hc; rw [hd] at q; cases q
        exact (I.hok c _ upd_same).2
      · exact I.hok c u (by rw [upd_ne hc]; exact q)
    exact st.stay (fun _ _ _ r => r) (fun e r => ne e _ r fun o v => by simp) fun e xs r => ne e _ r fun o v => by simp
variable {I S d : Addr} {vs : List (Key × Value)} {ep : Nat} {ob : Obj} {kvs : List (Key × V)} {f : Addr} {R : Result → Shared → Prop}
theorem minK_loop (kf : Nat → Int) (hh : A.handled = none) (hfz : H d = some (.frz ob (.dK kvs))) (hat : ∀ h : Heap, h.get? d = some ob → h.DictAt (mixKind X.prog X.w) d vs ep) (hdI : d ≠ I) (hSI : S ≠ I)
    (fI : FpOk X pins H I) (fS : FpOk X pins H S)
    (turn : ∀ (i : Nat) (v : Value), (∃ k x, vs[i]? = some (k, x) ∧ (mixKind X.prog X.w).is k v = true) → KeyTurn X pins σ H A.in1 (.ref f) v (kf i))
    (hR : ∀ (i : Nat) (v : Value) s', (∃ k x, vs[i]? = some (k, x) ∧ (mixKind X.prog X.w).is k v = true) → (∀ j, j < vs.length → kf i ≤ kf j ∧ (j < i → kf i < kf j)) → Inv X pins σ H s' → R (.ok (.ret v)) s') :
    ∀ (r j i : Nat) (s : Shared) (vb : Value) (tb : Tok) (c : Nat), vs.length - (j + 1) = r → j + 1 ≤ vs.length → Inv X pins σ H s →
      s.heap.get? S = some (seqObj "list" #[vb, .int (kf i) tb] c) → s.heap.IsKeyIter I d (j + 1) vs.length ep → (∃ k x, vs[i]? = some (k, x) ∧ (mixKind X.prog X.w).is k vb = true) → i ≤ j → (∀ j', j' ≤ j → kf i ≤ kf j' ∧ (j' < i → kf i < kf j')) →
      codeAny (model X.prog X.w) A (.builtin "min.loop" ⟨[.ref I, .ref f, .ref S], []⟩) R s := by
  have hname : (toString "min" ++ toString ".loop" : String) = "min.loop" := by decide
  have W := Walks.dictKeys (knd := mixKind X.prog X.w) (A := A.in1) hh I d hdI vs ep
  have dat : ∀ {s : Shared}, Inv X pins σ H s → s.heap.DictAt (mixKind X.prog X.w) d vs ep := fun J => hat _ (J.hok d _ hfz).1
  intro r
  induction r with
  | zero =>
    intro j i s vb tb c hr hj J hS hit hvb hij hbest
    have hin : j + 1 = vs.length := by omega
    refine codeAny_builtin PySem.F.entry_min_loop ?_
    rw [Around.under_plainId PySem.F.plain_min_loop _]
    show wpAny _ A.in1 (seqItems? (.ref S) >>= _) _ _ _
    refine wpAny_bind (wpAny_seqItems hS rfl ?_)
    show wpAny _ A.in1 (tryCatch (pyNext (.ref I)) _ >>= _) _ _ _
    refine wpAny_bind (wpAny_tryCatch (W.done _ _ _ ⟨by rw [← hin]; rw [← hin] at hit; exact hit, dat J⟩ fun h' tk' hk' => ?_))
    have J1 : Inv X pins σ H { s with heap := h', toks := tk' } := J.turned (fun b o hb q => hk' b o (by simpa using hb) q) fI.1 fI.2.1 fI.2.2.2.1 fI.2.2.2.2.1 fI.2.2.2.2.2
    have hS' := hk' S _ (by simpa using hSI) hS
    have s1 := Heap.SameBut.update h' S (Obj.mapSeq fun _ => (#[] : Array Value))
    show wpAny _ A.in1 (updateSeq S (fun _ => #[]) >>= _) _ _ _
    refine wpAny_bind ?_
    refine wpAny_updateSeq hS' rfl (wpAny_bind (wpAny_letGo (wpAny_pure ?_)))
    exact hR i vb _ hvb (fun j' hj' => hbest j' (by omega)) (J1.own1 fS s1)
  | succ r ih =>
    intro j i s vb tb c hr hj J hS hit hvb hij hbest
    have hlt : j + 1 < vs.length := by omega
    refine codeAny_builtin PySem.F.entry_min_loop ?_
    rw [Around.under_plainId PySem.F.plain_min_loop _]
    show wpAny _ A.in1 (seqItems? (.ref S) >>= _) _ _ _
    refine wpAny_bind (wpAny_seqItems hS rfl ?_)
    show wpAny _ A.in1 (tryCatch (pyNext (.ref I)) _ >>= _) _ _ _
    refine wpAny_bind (wpAny_tryCatch (W.item (j + 1) _ _ _ hlt ⟨hit, dat J⟩ fun v h' tk' hP hst' hk' => ?_))
    obtain ⟨oI', hoI', hoc, hod⟩ := id hst'.1
    have J1 : Inv X pins σ H { s with heap := h', toks := tk' } := J.turned (fun b o hb q => hk' b o (by simpa using hb) q) fI.1 fI.2.1 fI.2.2.2.1 fI.2.2.2.2.1 fI.2.2.2.2.2
    have hS' := hk' S _ (by simpa using hSI) hS
    have Jp : Inv X (pins ++ [(S, seqObj "list" #[vb, .int (kf i) tb] c), (I, oI')]) σ H { s with heap := h', toks := tk' } := J1.pins_of fun p hp => by
      rcases List.mem_append.mp hp with z | z
      · exact J1.pin p (List.mem_append_right _ z)
      · rcases List.mem_cons.mp z with z | z
        · rw [z]; exact fS.pin1 J1 hS' fun v z => nomatch z
        · rw [List.mem_singleton.mp z]; exact fI.pin1 J1 hoI' fun v z => by rw [hod] at z; cases z
    show wpAny _ A.in1 (tryCatch (holding [v] (call (.ref f) [v])) _ >>= _) _ _ _
    refine wpAny_bind (wpAny_tryCatch (wpAny_holding (wpAny_mono (turn (j + 1) v hP _ _ Jp) (fun x s'' he => ?_) fun _ _ hF => hF.elim)))
    obtain ⟨⟨t2, rfl⟩, J2⟩ := he
    have nS2 : s''.heap.get? S = some (seqObj "list" #[vb, .int (kf i) tb] c) := (J2.pin (S, seqObj "list" #[vb, .int (kf i) tb] c) (List.mem_append_right _ (List.mem_append_right _ (.head _)))).1
    have nI2 : s''.heap.get? I = some oI' := (J2.pin (I, oI') (List.mem_append_right _ (List.mem_append_right _ (.tail _ (.head _))))).1
    have J3 := J2.unpinned
    show wpAny _ A.in1 (tryCatch (holding [v, .int (kf (j + 1)) t2] (richCompare .Lt (.int (kf (j + 1)) t2) (.int (kf i) tb) >>= _)) _ >>= _) _ _ _
    refine wpAny_bind (wpAny_tryCatch (wpAny_holding (wpAny_bind (CmpOf.ints_lt (prog := X.prog) (w := X.w) (A := A.in1) (P := fun i v => ∃ t, v = .int (kf i) t) kf (fun i v h => h) (j + 1) i _ _ _ _ _ ⟨t2, rfl⟩ ⟨tb, rfl⟩ ?_))))
    refine wpAny_bind (wpAny_holding (wpAny_truthy_bool ?_))
    refine wpAny_bind (wpAny_letGo (wpAny_pure ?_))
    by_cases hb' : kf (j + 1) < kf i
    · have s1 := Heap.SameBut.update s''.heap S (Obj.mapSeq fun _ => #[v, .int (kf (j + 1)) t2])
      obtain ⟨c2, hc2⟩ : ∃ c2, (s''.heap.update S (Obj.mapSeq fun _ => #[v, .int (kf (j + 1)) t2])).get? S = some (seqObj "list" #[v, .int (kf (j + 1)) t2] c2) := ⟨_, get?_update_seq nS2 fun _ => #[v, .int (kf (j + 1)) t2]⟩
      simp only [hb', decide_true, if_true]
      refine wpAny_bind ?_
      refine wpAny_updateSeq nS2 rfl (wpAny_bind (wpAny_letGo ?_))
      rw [hname]
      refine wpAny_pure ⟨plainId_quiet PySem.F.plain_min_loop _, ih (j + 1) (j + 1) _ v t2 c2 (by omega) hlt (J3.own1 fS s1) hc2 ⟨oI', (s1.2 I hSI.symm).trans nI2, hoc, hod⟩ hP (Nat.le_refl _) fun j' hj' => ?_⟩
      by_cases e : j' = j + 1
      · subst e
        exact ⟨by omega, fun _ => by omega⟩
      · have hb1 := hbest j' (by omega)
        have hb2 := hb1.1
        exact ⟨by omega, fun _ => by omega⟩
    · simp only [hb', decide_false, Bool.false_eq_true, if_false]
      refine wpAny_bind (wpAny_letGo ?_)
      rw [hname]
      refine wpAny_pure ⟨plainId_quiet PySem.F.plain_min_loop _, ih (j + 1) i _ vb tb c (by omega) hlt J3 nS2 ⟨oI', nI2, hoc, hod⟩ hvb (by omega) fun j' hj' => ?_⟩
      by_cases e : j' = j + 1
      · subst e
        exact ⟨by omega, fun _ => by omega⟩
      · exact hbest j' (by omega)
theorem min_key {Q : Value → Shared → Prop} (kf : Nat → Int) (hh : X.A.handled = none) (J : Inv X pins σ H s) (lo : (d == sysModules) = false) (hfz : H d = some (.frz ob (.dK kvs))) (hat : ∀ h : Heap, h.get? d = some ob → h.DictAt (mixKind X.prog X.w) d vs ep) (hne : 0 < vs.length)
    (turn : ∀ (i : Nat) (v : Value), (∃ k x, vs[i]? = some (k, x) ∧ (mixKind X.prog X.w).is k v = true) → KeyTurn X pins σ H X.A.in1 (.ref f) v (kf i))
    (hQ : ∀ (i : Nat) (v : Value) s', (∃ k x, vs[i]? = some (k, x) ∧ (mixKind X.prog X.w).is k v = true) → (∀ j, j < vs.length → kf i ≤ kf j ∧ (j < i → kf i < kf j)) → Inv X pins σ H s' → Q v s') :
    wpAny (model X.prog X.w) X.A (call (.builtin "min") [.ref d] [(Str.ofString "key", .ref f)]) Q E s := by
  have hname : (toString "min" ++ toString ".loop" : String) = "min.loop" := by decide
  have dat : ∀ {s : Shared}, Inv X pins σ H s → s.heap.DictAt (mixKind X.prog X.w) d vs ep := fun J => hat _ (J.hok d _ hfz).1
  have hld : d < s.heap.objs.size := (dat J).lt_size
  refine kmk_tree PySem.F.kind_min PySem.F.plain_min PySem.F.entry_min (kmk_min_key _ _) ?_
  show wpAny _ X.A.in1 (Builtin.Builtins.bindParams "min" ["key", "default"] 0 ⟨[], [(Str.ofString "key", .ref f)]⟩ >>= _) _ _ s
  refine wpAny_bind (wpAny_of_eq (show Builtin.Builtins.bindParams "min" ["key", "default"] 0 ⟨[], [(Str.ofString "key", .ref f)]⟩ = pure [some (.ref f), none] from rfl) ?_)
  refine wpAny_bind (wpAny_pure ?_)
  refine wpAny_bind (wpAny_pyIter_dict lo (dat J) ?_)
  refine wpAny_bind (wpAny_newList ?_ (Nat.zero_le _))
  rw [hname]
  generalize hIo : ({ cls := .type "dict_keyiterator", data := .fields #[.ref d, .int 0 0, .int vs.length 0, .int ep 0] } : Obj) = itO
  have hS : (s.heap.push itO).objs.size = s.heap.objs.size + 1 := size_push' ..
  have hdI : d ≠ s.heap.objs.size := Nat.ne_of_lt hld
  have hSI : (s.heap.push itO).objs.size ≠ s.heap.objs.size := by rw [hS]; exact Nat.ne_of_gt (Nat.lt_succ_self _)
  have fI : FpOk X pins H s.heap.objs.size := J.fpOk (Nat.le_refl _) (J.hok.fresh (Nat.le_refl _))
  have fS : FpOk X pins H (s.heap.push itO).objs.size := by rw [hS]; exact J.fpOk (Nat.le_succ _) (J.hok.fresh (Nat.le_succ _))
  have J0 : Inv X pins σ H { s with heap := (s.heap.push itO).push (seqObj "list" #[] 0) } := J.kept (t' := s.toks) fun b u e => Heap.get?_push_of_some _ (Heap.get?_push_of_some _ e)
  refine wpAny_pure ⟨plainId_quiet PySem.F.plain_min_loop _, ?_⟩
  have gI : ((s.heap.push itO).push (seqObj "list" #[] 0)).get? s.heap.objs.size = some itO := Heap.get?_push_of_some _ (Heap.get?_push_size _ (by rw [← hIo]; rfl))
  have gS : ((s.heap.push itO).push (seqObj "list" #[] 0)).get? (s.heap.push itO).objs.size = some (seqObj "list" #[] 0) := Heap.get?_push_size _ rfl
  have W := Walks.dictKeys (knd := mixKind X.prog X.w) (A := X.A.in1) hh s.heap.objs.size d hdI vs ep
  refine codeAny_builtin PySem.F.entry_min_loop ?_
  rw [Around.under_plainId PySem.F.plain_min_loop _]
  show wpAny _ X.A.in1 (seqItems? (.ref _) >>= _) _ _ _
  refine wpAny_bind (wpAny_seqItems gS rfl ?_)
  show wpAny _ X.A.in1 (tryCatch (pyNext (.ref s.heap.objs.size)) _ >>= _) _ _ _
  refine wpAny_bind (wpAny_tryCatch (W.item 0 _ _ _ hne ⟨⟨_, gI, by rw [← hIo], by rw [← hIo]; rfl⟩, dat J0⟩ fun v h' tk' hP hst' hk' => ?_))
  obtain ⟨oI', hoI', hoc, hod⟩ := id hst'.1
  have J1 : Inv X pins σ H { s with heap := h', toks := tk' } := J0.turned (fun b o hb q => hk' b o (by simpa using hb) q) fI.1 fI.2.1 fI.2.2.2.1 fI.2.2.2.2.1 fI.2.2.2.2.2
  have hS' := hk' _ _ (by simpa using hSI) gS
  have Jp : Inv X (pins ++ [((s.heap.push itO).objs.size, seqObj "list" #[] 0), (s.heap.objs.size, oI')]) σ H { s with heap := h', toks := tk' } := J1.pins_of fun p hp => by
    rcases List.mem_append.mp hp with z | z
    · exact J1.pin p (List.mem_append_right _ z)
    · rcases List.mem_cons.mp z with z | z
      · rw [z]; exact fS.pin1 J1 hS' fun v z => nomatch z
      · rw [List.mem_singleton.mp z]; exact fI.pin1 J1 hoI' fun v z => by rw [hod] at z; cases z
  show wpAny _ X.A.in1 (tryCatch (holding [v] (call (.ref f) [v])) _ >>= _) _ _ _
  refine wpAny_bind (wpAny_tryCatch (wpAny_holding (wpAny_mono (turn 0 v hP _ _ Jp) (fun x s'' he => ?_) fun _ _ hF => hF.elim)))
  obtain ⟨⟨t2, rfl⟩, J2⟩ := he
  have nS2 : s''.heap.get? (s.heap.push itO).objs.size = some (seqObj "list" #[] 0) := (J2.pin ((s.heap.push itO).objs.size, seqObj "list" #[] 0) (List.mem_append_right _ (List.mem_append_right _ (.head _)))).1
  have nI2 : s''.heap.get? s.heap.objs.size = some oI' := (J2.pin (s.heap.objs.size, oI') (List.mem_append_right _ (List.mem_append_right _ (.tail _ (.head _))))).1
  have s1 := Heap.SameBut.update s''.heap (s.heap.push itO).objs.size (Obj.mapSeq fun _ => #[v, .int (kf 0) t2])
  obtain ⟨c2, hc2⟩ : ∃ c2, (s''.heap.update (s.heap.push itO).objs.size (Obj.mapSeq fun _ => #[v, .int (kf 0) t2])).get? (s.heap.push itO).objs.size = some (seqObj "list" #[v, .int (kf 0) t2] c2) := ⟨_, get?_update_seq nS2 fun _ => #[v, .int (kf 0) t2]⟩
  show wpAny _ X.A.in1 (updateSeq (s.heap.push itO).objs.size (fun _ => #[v, .int (kf 0) t2]) >>= _) _ _ _
  refine wpAny_bind ?_
  refine wpAny_updateSeq nS2 rfl ?_
  rw [hname]
  refine wpAny_pure ⟨plainId_quiet PySem.F.plain_min_loop _, minK_loop kf hh hfz hat hdI hSI fI fS turn hQ _ 0 0 _ v t2 c2 rfl hne (J2.unpinned.own1 fS s1) hc2 ⟨oI', (s1.2 _ hSI.symm).trans nI2, hoc, hod⟩ hP (Nat.le_refl _) fun j' hj' => ?_⟩
  have e : j' = 0 := by omega
  subst e
  exact ⟨by omega, fun h => absurd h (Nat.lt_irrefl _)⟩
end
theorem boot_minQ : bootBuiltins "min" = some (.builtin "min") := by decide +kernel
def rMinLam (P : Addr) (lpos : Pos) (qual : Str) (bs : List (Option Nat)) (te : TE) (σ : St) (Q : VK) : V → Hp → Prop := fun x H1 => ∃ (d : Addr) (kvs : List (Key × V)) (ns : List Int) (g : Int → Int) (fv : List V), x = .ref d ∧ H1 d = some (.dK kvs) ∧ kvs.map (·.1) = ns.map Sum.inl ∧ 0 < ns.length ∧ TabI P lpos qual H1 ∧ bst bs σ = fv.map some ∧
  (∀ n ∈ ns, ∀ H3, (∀ b o, b ≠ d → b ≠ P → H1 b = some o → H3 b = some o) → Rd H3 d (.dK kvs) → te (some (.int n) :: fv.map some) H3 fun v H4 => v = .int (g n) ∧ H4 = H3) ∧
  ∀ H2, Gr P lpos qual H1 H2 → ∀ (i : Nat) n, ns[i]? = some n → (∀ (j : Nat) m, ns[j]? = some m → g n ≤ g m ∧ (j < i → g n < g m)) → Q (.int n) H2
def tMinLam (P : Addr) (lpos : Pos) (qual : Str) (bs : List (Option Nat)) (ta te : TE) : TE := fun σ H Q => ta σ H (rMinLam P lpos qual bs te σ Q)
theorem pe_minLam {X : Cx} {k : Nat} {scope : Scope} {cl : List (Str × Addr)} {fr : List Str} {bs : List (Option Nat)} {x : Str} {params : Arguments} {body arg : Expr} {c P : Addr} {qual : Str} {lpos kpos pos p : Pos} {ta te : TE}
    (B : Blk X scope cl fr bs) (L : Lam x fr params scope) (hbm : BM X.mg X.base) (hcode : X.env.code = .ref c) (hC : PySem.W.codeHdIn X.K c P = true) (hq0 : X.env.qual ++ "<lambda>" = qual) (hdef : defaultsOf params X.env = ([], []))
    (hr : Room (k + 3) X.A) (hg : Gl X "min") (hm : X.mg "min" = none) (ha : PE X arg ta)
    (hbody : ∀ (f c' : Addr) (A : Around) (s : Shared) (H : Hp), Room k (A.deeper (PySem.W.envX qual scope s.heap.objs.size f (.ref c') cl)) → PE (cxLam X.prog X.w X.K X.mg X.base (x :: fr) qual scope cl f c' A X.stack s H) body te)
    (hs : starEach [arg] X.env = [(false, eval arg X.env)] := by rfl) :
    PE X (.Call (.Name "min" p) [arg] [⟨some "key", .Lambda params body scope lpos, kpos⟩] pos) (tMinLam P lpos qual bs ta te) := by
  intro pins s σ H Q I h
  refine wpAny_Call_Name_kw (ld_blt I hg hm boot_minQ ?_)
  refine callWith_kw (id := "min") (thn ((pa_cons ha pa_nil hs : PA X [arg] (tCons ta tNil)) pos pins s σ H (only1 (rMinLam P lpos qual bs te σ Q)) I h) fun us s1 ⟨vs, H1, I1, r1, q1⟩ => ?_) (by rw [hs]; rfl) (by rw [hs]; rfl)
  obtain ⟨x1, rfl, q1⟩ := only1_of q1
  obtain ⟨u1, rfl, ru⟩ := vals1 r1
  obtain ⟨d, kvs, ns, g, fv, rfl, hd, hkn, hne, htab, hfv, qk, qd⟩ := q1
  cases ru
  show wpAny _ _ (evalAll [(do let v ← eval (.Lambda params body scope lpos) X.env; standAt pos; pure v)]) _ _ s1
  refine wpAny_evalAll_cons (wpAny_bind (lam_make I1 hbm B.clos hcode hC hq0 hdef htab fun f c' pm ctv s2 H2 I2 gr hf hfs hfn hc => wpAny_bind (wpAny_standAt (wpAny_pure (wpAny_evalAll_nil ?_)))))
  show wpAny _ _ (call (.builtin "min") [.ref d] [(Str.ofString "key", .ref f)]) _ _ s2
  have hdP : d ≠ P := fun z => by
    subst z
    rcases htab with t | ⟨c', t, _⟩
    · rw [hd] at t; cases t
    · rw [hd] at t; cases t
  have hd2 : H2 d = some (.dK kvs) := gr.keep _ _ hd hdP
  obtain ⟨z, lo, ws, rel, dd⟩ := dk_of I2.hok hd2
  obtain ⟨ep, dd⟩ := dd.dictAt
  obtain ⟨ob, hob⟩ : ∃ ob, s2.heap.get? d = some ob := let ⟨o, _, ho, _⟩ := dd; ⟨o, ho⟩
  have hat : ∀ h : Heap, h.get? d = some ob → h.DictAt (mixKind X.prog X.w) d ws ep := fun h e => dd.at' fun o q => by rw [hob] at q; cases q; exact e
  have I2z := I2.freeze hd2 hob
  have hkl : kvs.length = ns.length := by have := congrArg List.length hkn; simpa using this
  have hvl : kvs.length = ws.length := Paired.length rel
  have hkeys : ws.map (·.1) = ns.map (Sum.inl : Int → Key) := by
    rw [← hkn]
    have : ∀ {kvs : List (Key × V)} {vs : List (Key × Value)}, KV kvs vs → vs.map (·.1) = kvs.map (·.1) := by
      intro kvs vs r
      induction r with
      | nil => rfl
      | cons h _ ih => rw [List.map_cons, List.map_cons, ih, h.1]
    exact this rel
  have hkey : ∀ (i : Nat) (v : Value), (∃ k x, ws[i]? = some (k, x) ∧ (mixKind X.prog X.w).is k v = true) → ∃ n t, ns[i]? = some n ∧ v = .int n t := by
    rintro i v ⟨k, x, hi, hv⟩
    have h1 : (ws.map (·.1))[i]? = some k := by rw [List.getElem?_map, hi]; rfl
    rw [hkeys, List.getElem?_map] at h1
    cases hn : ns[i]? with
    | none => rw [hn] at h1; cases h1
    | some m =>
      rw [hn] at h1
      cases h1
      obtain ⟨t, e⟩ := Value.isInt_shape (k := m) (v := v) hv
      exact ⟨m, t, rfl, e⟩
  have hfd : f ≠ d := fun z => by rw [z, hd2] at hfn; cases hfn
  have ff : FpOk X pins (upd H2 d (.frz ob (.dK kvs))) f := I1.fpOk hfs (by rw [upd_ne hfd]; exact hfn)
  have I2' : Inv X (pins ++ [(f, PySem.W.kla_obj "<lambda>" qual params body scope cl pm c' ctv)]) σ (upd H2 d (.frz ob (.dK kvs))) s2 := I2z.pins_of fun p hp => by
    rcases List.mem_append.mp hp with z | z
    · exact I2z.pin p (List.mem_append_right _ z)
    · rw [List.mem_singleton.mp z]
      exact ff.pin1 I2z hf fun v z => nomatch z
  have hc2 : upd H2 d (.frz ob (.dK kvs)) c' = some (TabE qual c') := by rw [upd_ne fun z => by rw [z, hd2] at hc; cases hc]; exact hc
  refine min_key (fun i => g (ns.getD i 0)) hr.hd I2' lo upd_same hat (by omega) (fun i v hv s' pl I' => ?_) fun i v s' hv hb I' => ?_
  · obtain ⟨n, t, hn, rfl⟩ := hkey i v hv
    have pf := I'.pin (f, PySem.W.kla_obj "<lambda>" qual params body scope cl pm c' ctv) (List.mem_append_right _ (List.mem_append_left _ (List.mem_append_right _ (.head _))))
    have hcd : s'.heap.CodeRec (.ref c') qual := (show ObjOk X.prog X.w (upd H2 d (.frz ob (.dK kvs))) s'.heap c' (TabE qual c') from I'.hok c' _ hc2).1
    have hr1 : Room (k + 1) X.A.in1 := (hr.in1).mono (by omega)
    have hgn : g (ns.getD i 0) = g n := by rw [List.getD_eq_getElem?_getD, hn]; rfl
    rw [hgn]
    refine wpAny_call (codeAny_mono (lam_run (v := .int n) L hr1 I'.env0.in1 pf.1 hcd (fun y z c h1 h2 => I'.ok.inj y z c (B.c1 h1) (B.c1 h2)) B.cl2 (fun y c h => ⟨I'.cell y c (B.c1 h), I'.freeC y c (B.c1 h)⟩) (closAt_of B I' hfv) ⟨t, rfl⟩ (hbody f c' _ s' _ (hr1.deeper _)) (qk n (List.mem_of_getElem? hn) _ (fun b o hb hP e => by rw [upd_ne hb]; exact gr.keep _ _ e hP) (.inr ⟨ob, upd_same⟩))) fun r s'' hq => ?_)
    cases r with
    | error e => exact hq.elim
    | ok fl =>
      cases fl with
      | next => exact False.elim hq
      | brk => exact False.elim hq
      | cont => exact False.elim hq
      | ret u =>
        obtain ⟨v', H', J, r', rfl, rfl⟩ := I'.after hq
        exact ⟨r', J⟩
  · obtain ⟨n, t, hn, rfl⟩ := hkey i v hv
    have hgn : g (ns.getD i 0) = g n := by rw [List.getD_eq_getElem?_getD, hn]; rfl
    refine ⟨.int n, H2, I2.thaw hd2 I'.unpinned, ⟨t, rfl⟩, qd H2 gr i n hn fun j m hm => ?_⟩
    have hj : j < ns.length := (List.getElem?_eq_some_iff.mp hm).1
    have := hb j (by omega)
    rw [hgn, List.getD_eq_getElem?_getD, hm] at this
    exact this
end L2
set_option Elab.async false
set_option linter.all false
set_option maxRecDepth 100000
set_option maxHeartbeats 1000000
namespace L2
open PySem PySem.Spec PyProof.Rows
section
variable {X : Cx}
def fromPairsK (ps : List (Key × V)) : List (Key × V) := ps.foldl (fun acc p => putK acc p.1 p.2) []
def rDictP (K : PySem.W.Frag) : List V → Hp → VK → Prop := fun xs H Q => ∃ p ys, ∃ ps : List (Key × V), xs = [.ref p] ∧ SqL K H p ys ∧ ys.length = ps.length ∧ ys.length ≤ 1000 ∧
  (∀ (i : Nat) y pr, ys[i]? = some y → ps[i]? = some pr → ∃ b, y = .ref b ∧ H b = some (.tup [kV pr.1, pr.2])) ∧ ∀ q H', Same H H' → H q = none → H' q = some (.dK (fromPairsK ps)) → Q (.ref q) H'
theorem fromPairsK_len (ps : List (Key × V)) : (fromPairsK ps).length ≤ ps.length := by
  have key : ∀ (ps acc : List (Key × V)), (ps.foldl (fun acc p => putK acc p.1 p.2) acc).length ≤ acc.length + ps.length := by
    intro ps
    induction ps with
    | nil => intro acc; exact Nat.le_refl _
    | cons p ps ih =>
      intro acc
      have h1 := ih (putK acc p.1 p.2)
      have h2 := length_putK acc p.1 p.2
      rw [List.length_cons]
      show (ps.foldl (fun acc p => putK acc p.1 p.2) (putK acc p.1 p.2)).length ≤ _
      omega
  have := key ps []
  simpa [fromPairsK] using this
theorem fromPairsK_kv {ps : List (Key × V)} {kv : Nat → Key × Value} (h : ∀ i, (hi : i < ps.length) → (kv i).1 = ps[i].1 ∧ RelV ps[i].2 (kv i).2) : ∀ n, n ≤ ps.length → KV (fromPairsK (ps.take n)) (DictL.upTo kv n)
  | 0, _ => .nil
  | n + 1, hn => by
    obtain ⟨h1, h2⟩ := h n (by omega)
    rw [List.take_add_one, List.getElem?_eq_getElem (by omega), DictL.upTo_succ]
    unfold fromPairsK
    rw [List.foldl_append]
    have ih := fromPairsK_kv h n (by omega)
    show KV (putK (fromPairsK (ps.take n)) ps[n].1 ps[n].2) _
    rw [h1]
    exact ih.put _ h2
theorem call_dictP {k : Nat} (hr : Room k X.A) : CallR X (.type "dict") (rDictP X.K) := by
  intro pins s σ H xs us Q I r h
  obtain ⟨p, ys, ps, rfl, hp, hlen, h1000, hk, q⟩ := h
  obtain ⟨u, rfl, rx⟩ := vals1 r
  cases (show u = Value.ref p from rx)
  obtain ⟨vs, rv, pl, hz⟩ := I.list hp
  have hvl := rv.length
  have ex : ∀ i : Nat, ∃ pr : Key × Value, ∀ (hi : i < ps.length), pr.1 = ps[i].1 ∧ RelV ps[i].2 pr.2 ∧ ∀ v, vs[i]? = some v → ∃ b, v = .ref b ∧ DictL.PairAt (mixKind X.prog X.w) s.heap b pr := fun i => by
    by_cases hi : i < ps.length
    · have hy : ys[i]? = some ys[i] := List.getElem?_eq_getElem (by omega)
      obtain ⟨b, eb, hb⟩ := hk i _ _ hy (List.getElem?_eq_getElem hi)
      obtain ⟨u2, e2, r2⟩ := rv.get hy
      obtain ⟨_, its, ri, o, ho, hc, n, hd⟩ := I.hok b _ hb
      obtain ⟨u1, u3, rfl, ra, rb⟩ := vals2 ri
      refine ⟨(ps[i].1, u3), fun _ => ⟨rfl, rb, fun v hv => ?_⟩⟩
      rw [hv] at e2
      cases e2
      rw [eb] at r2
      exact ⟨b, r2, o, u1, n, ho, hc, hd, kV_is ra⟩
    · exact ⟨(.inl 0, .none), fun h => absurd h hi⟩
  obtain ⟨kv, hkv⟩ := Classical.axiomOfChoice ex
  obtain ⟨o, n, ho, hc, hdn, hd⟩ := pl
  refine DictL.call_dict_list (knd := mixKind X.prog X.w) (kv := kv) hr.hd ⟨o, n, ho, hc, hdn, hd⟩ (fun i v hv => ?_) (by rw [List.size_toArray]; omega) fun h' tk hD kp => ?_
  · have hv' : vs[i]? = some v := by simpa using hv
    have hi : i < vs.length := (List.getElem?_eq_some_iff.mp hv').1
    exact (hkv i (by omega)).2.2 v hv'
  · have esz : vs.toArray.size = ps.length := by rw [List.size_toArray]; omega
    rw [esz] at hD
    have rel := fromPairsK_kv (ps := ps) (kv := kv) (fun i hi => ⟨(hkv i hi).1, (hkv i hi).2.1⟩) ps.length (Nat.le_refl _)
    rw [List.take_length] at rel
    have hlp := fromPairsK_len ps
    refine ⟨.ref s.heap.objs.size, _, I.laid (t' := tk) (o := .dK (fromPairsK ps)) kp (Nat.le_refl _) ?_, rfl, q _ _ (same_add (I.hok.fresh (Nat.le_refl _))) (I.hok.fresh (Nat.le_refl _)) upd_same⟩
    exact dk_new (leMil (by omega)) (beq_eq_false_iff_ne.mpr (Ne.symm (Nat.ne_of_lt I.big))) rel hD
theorem fromPairsK_in (ps : List (Key × V)) (k : Key) : (valV (fromPairsK ps) k).isSome = true ↔ ∃ p ∈ ps, p.1 = k := by
  have key : ∀ (ps acc : List (Key × V)), (valV (ps.foldl (fun acc p => putK acc p.1 p.2) acc) k).isSome = true ↔ (valV acc k).isSome = true ∨ ∃ p ∈ ps, p.1 = k := by
    intro ps
    induction ps with
    | nil => intro acc; exact ⟨.inl, fun h => h.elim id fun ⟨p, hp, _⟩ => by cases hp⟩
    | cons p ps ih =>
      intro acc
      show (valV (ps.foldl (fun acc p => putK acc p.1 p.2) (putK acc p.1 p.2)) k).isSome = true ↔ _
      rw [ih, valV_put]
      by_cases e : k = p.1
      · rw [if_pos e]
        exact ⟨fun _ => .inr ⟨p, .head _, e.symm⟩, fun _ => .inl rfl⟩
      · rw [if_neg e]
        constructor
        · rintro (h | ⟨q, hq, e2⟩)
          · exact .inl h
          · exact .inr ⟨q, .tail _ hq, e2⟩
        · rintro (h | ⟨q, hq, e2⟩)
          · exact .inl h
          · rcases List.mem_cons.mp hq with rfl | hq
            · exact absurd e2.symm e
            · exact .inr ⟨q, hq, e2⟩
  unfold fromPairsK
  rw [key]
  exact ⟨fun h => h.elim (fun z => by cases z) id, .inr⟩
theorem fromPairsK_nd {ps : List (Key × V)} (hn : (ps.map (·.1)).Nodup) : fromPairsK ps = ps := by
  have key : ∀ (ps acc : List (Key × V)), ((acc ++ ps).map (·.1)).Nodup → ps.foldl (fun acc p => putK acc p.1 p.2) acc = acc ++ ps := by
    intro ps
    induction ps with
    | nil => intro acc _; rw [List.append_nil]; rfl
    | cons p ps ih =>
      intro acc h
      show ps.foldl (fun acc p => putK acc p.1 p.2) (putK acc p.1 p.2) = _
      have hv : valV acc p.1 = none := by
        cases z : valV acc p.1 with
        | none => rfl
        | some v =>
          have := valV_in z
          rw [List.map_append, List.nodup_append] at h
          exact absurd rfl (h.2.2 _ this _ (.head _))
      rw [putK_new _ hv, ih]
      · rw [List.append_assoc]; rfl
      · rw [List.append_assoc]; exact h
  exact key ps [] hn
theorem call_dictC : CallR X (.type "dict") (fun xs H Q => ∃ a kvs, xs = [.ref a] ∧ H a = some (.dK kvs) ∧ ∀ p, H p = none → Q (.ref p) (upd H p (.dK kvs))) := by
  intro pins s σ H xs us Q I r h
  obtain ⟨a, kvs, rfl, hd, q⟩ := h
  obtain ⟨u, rfl, rx⟩ := vals1 r
  cases (show u = Value.ref a from rx)
  exact d_copyOf I (.inl hd) fun p s' hp I' => ⟨.ref p, _, I', rfl, q p hp⟩
end
end L2
set_option Elab.async false
set_option linter.all false
set_option maxRecDepth 100000
set_option maxHeartbeats 1000000
namespace L2
open PySem PySem.Spec PyProof.Rows PySem.SeqAt
section
variable {X : Cx}
def rEqLE (K : PySem.W.Frag) : R2 := fun x y H Q => ∃ (p q : Addr) (xs : List V), x = .ref p ∧ y = .ref q ∧ SqL K H p xs ∧ SqL K H q [] ∧ Q (.bl (xs.length == 0)) H
theorem op_eqLE {k : Nat} (hr : Room k X.A) : OpR X (compareOp .Eq) (rEqLE X.K) := by
  intro pins s σ H x y v u Q I rx ry h
  obtain ⟨p, q, xs, rfl, rfl, ha, hb, hq⟩ := h
  cases (show v = Value.ref p from rx)
  cases (show u = Value.ref q from ry)
  have hun := hr.un
  show wpAny _ _ (richCompare .Eq (.ref p) (.ref q)) _ _ s
  obtain ⟨vs, rvs, pa, _⟩ := I.list ha
  obtain ⟨ws, rws, pb, _⟩ := I.list hb
  have l1 := rvs.length
  have l2 := rws.length
  have l3 : ws.length = 0 := l2.symm
  cases xs with
  | nil =>
    have l4 : vs.length = 0 := l1.symm
    refine RcAt.lists (A := X.A) (s := s) (e := fun _ => true) pa.isList pb.isList (by simp; omega) (by omega) (fun j h1 h2 => absurd h2 (by rw [List.size_toArray]; omega)) _ _ _ _ ?_
    rw [all_true]
    exact ⟨.bl _, H, I, rfl, hq⟩
  | cons x xs =>
    refine RcAt.lists_lengths (A := X.A) (s := s) pa.isList pb.isList (by
      rw [List.size_toArray, List.size_toArray, l3, ← l1]
      rfl) (by omega) _ _ _ _ ?_
    exact ⟨.bl _, H, I, rfl, hq⟩
theorem Sam.tup {K : PySem.W.Frag} {H : Hp} {d : Nat} {a b : Addr} {xs ys : List V} (ha : H a = some (.tup xs)) (hb : H b = some (.tup ys)) (hl : xs.length = ys.length) (hk : ∀ (i : Nat) u v, xs[i]? = some u → ys[i]? = some v → Sam K H d u v) : Sam K H (d + 1) (.ref a) (.ref b) :=
  .inr ⟨a, b, xs, ys, rfl, rfl, .inl ⟨SqT.of ha, SqT.of hb⟩, hl, hk⟩
end
end L2
set_option Elab.async false
set_option linter.all false
set_option maxRecDepth 100000
set_option maxHeartbeats 4000000
namespace SetT
open PySem PySem.SetTable PySem.Spec PyProof.Rows
variable {prog : Program} {w : World} {A : Around} {E : Value → Shared → Prop} {s : Shared}
end SetT
set_option Elab.async false
set_option linter.all false
set_option maxRecDepth 100000
set_option maxHeartbeats 4000000
set_option Elab.async false
set_option linter.all false
set_option maxRecDepth 100000
set_option maxHeartbeats 4000000
namespace L2
open PySem PySem.Spec PyProof.Rows
open AutoSeq1 (wpAny_loadPart')
theorem tuple_mul1 (l : Addr) (items : Array Value) (n : Nat) (dd : Option Addr) (sl : Array (Option Value)) (u : Tok) :
    Meets (Builtin.«tuple.__mul__» ⟨[.ref l, .int 1 u], []⟩) (fun _ R s => s.heap.get? l = some { cls := .type "tuple", dict := dd, data := .seq items n, slots := sl } ∧ R (.ok (.ret (Value.ref l))) s) :=
  .of_wp fun prog w A R s h => by
    obtain ⟨hp, g, d, tk, os⟩ := s; obtain ⟨hl, h⟩ := h; have f1 := AutoSeq1.idx_int; have f2 := AutoSeq1.sub_tuple_tuple; have f3 := AutoSeq1.sub_list_list; have f4 := AutoSeq1.sub_tuple_list; have f5 := AutoSeq1.sub_list_tuple
    have hc1 : (items.isEmpty || ((1 : Int) == 1)) = true := by simp
    wp_walk using wpAny_loadPart' hl
    exact ⟨_, rfl, h⟩
theorem tuple_mul0 (l : Addr) (items : Array Value) (n : Nat) (dd : Option Addr) (sl : Array (Option Value)) (u : Tok) (hc1 : ¬ (items.isEmpty || ((0 : Int) == 1)) = true) :
    Meets (Builtin.«tuple.__mul__» ⟨[.ref l, .int 0 u], []⟩) (fun _ R s => s.heap.get? l = some { cls := .type "tuple", dict := dd, data := .seq items n, slots := sl } ∧ R (.ok (.ret (Value.ref s.heap.objs.size))) { s with heap := s.heap.push { cls := Value.type "tuple", data := Data.seq #[] }, toks := s.toks }) :=
  .of_wp fun prog w A R s h => by
    obtain ⟨hp, g, d, tk, os⟩ := s; obtain ⟨hl, h⟩ := h; have f1 := AutoSeq1.idx_int; have f2 := AutoSeq1.sub_tuple_tuple; have f3 := AutoSeq1.sub_list_list; have f4 := AutoSeq1.sub_tuple_list; have f5 := AutoSeq1.sub_list_tuple
    have hc2 : (decide ((0 : Int) ≤ 0) || items.isEmpty) = true := by simp
    wp_walk using wpAny_loadPart' hl
    first | exact ⟨_, rfl, h⟩ | (rw [if_neg hc1]; wp_walk using wpAny_loadPart' hl; exact ⟨_, rfl, h⟩)
section
variable {X : Cx}
def rRepA : R2 := fun x y H Q => ∃ l, ∃ k : Nat, ∃ xs, x = .ref l ∧ y = .int (k : Int) ∧ H l = some (.tup xs) ∧ k < 100000 ∧ xs ≠ [] ∧ xs.length * k ≤ 100000 ∧ ∀ p H', Same H H' → H' p = some (.tup (List.replicate k xs).flatten) → Q (.ref p) H'
theorem op_repA : OpR X (binaryOp .Mult) rRepA := by
  intro pins s σ H x y v u Q I rx ry h
  obtain ⟨l, k, xs, rfl, rfl, hS, h1, hne, hz, q⟩ := h
  match k, h1, hz, q, ry with
  | 0, h1, hz, q, ry =>
    cases (show v = Value.ref l from rx)
    obtain ⟨t, rfl⟩ := ry
    obtain ⟨its, r, pl, _⟩ := I.tuple (SqT.of hS)
    obtain ⟨⟨cls, dd, data, sl⟩, ho, hc, n, hd⟩ := id pl
    simp only at hc hd
    subst hc hd
    have hne' : its.toArray.isEmpty = false := by
      cases its with
      | nil => exact absurd (r.nil_iff.mp rfl) hne
      | cons a b => rfl
    refine wpAny_binaryOp_repeat_ref (T := "tuple") (U := "int") (by decide) ⟨_, ho, rfl⟩ (fun s' => typeIs_int s' _ t) noFill_tuple_mul F.fills_int_mul F.slot_int_rmul repeat_tuple F.slot_int_index.lookup
      (call_meets F.slot_int_rmul (typeIs_int s _ t) F.entry_int_rmul (F.args_int_rmul_2 _ _) (int_rmul_tuple _ t l its.toArray n dd sl)
        ⟨ho, rfl, ⟨_, ho, rfl⟩, call_meets F.slot_tuple_mul ⟨_, ho, rfl⟩ F.entry_tuple_mul (F.args_tuple_mul_2 _ _) (tuple_mul0 l its.toArray n dd sl t (by rw [hne']; decide)) ⟨ho, ?_⟩⟩)
    refine ⟨.ref _, _, I.laid (t' := s.toks) (o := .tup []) (fun b ob q => Heap.get?_push_of_some _ q) (Nat.le_refl _) ?_, rfl, q _ _ (same_add I.fresh) upd_same⟩
    exact ⟨Nat.zero_le _, [], .nil, IsTup.new _ _⟩
  | 1, h1, hz, q, ry =>
    cases (show v = Value.ref l from rx)
    obtain ⟨t, rfl⟩ := ry
    obtain ⟨its, r, pl, _⟩ := I.tuple (SqT.of hS)
    obtain ⟨⟨cls, dd, data, sl⟩, ho, hc, n, hd⟩ := id pl
    simp only at hc hd
    subst hc hd
    refine wpAny_binaryOp_repeat_ref (T := "tuple") (U := "int") (by decide) ⟨_, ho, rfl⟩ (fun s' => typeIs_int s' _ t) noFill_tuple_mul F.fills_int_mul F.slot_int_rmul repeat_tuple F.slot_int_index.lookup
      (call_meets F.slot_int_rmul (typeIs_int s _ t) F.entry_int_rmul (F.args_int_rmul_2 _ _) (int_rmul_tuple _ t l its.toArray n dd sl)
        ⟨ho, rfl, ⟨_, ho, rfl⟩, call_meets F.slot_tuple_mul ⟨_, ho, rfl⟩ F.entry_tuple_mul (F.args_tuple_mul_2 _ _) (tuple_mul1 l its.toArray n dd sl t) ⟨ho, ?_⟩⟩)
    exact ⟨.ref l, H, I, rfl, q l H (Same.refl H) (by rw [hS]; simp)⟩
  | k + 2, h1, hz, q, ry =>
    exact op_repTS pins s σ H _ _ v u Q I rx ry ⟨l, _, xs, rfl, rfl, hS, by omega, by omega, hne, (by rw [Int.toNat_natCast]; exact hz), fun p H' s1 s2 => q p H' s1 (by rw [Int.toNat_natCast] at s2; exact s2)⟩
end
end L2
set_option Elab.async false
set_option linter.all false
set_option maxRecDepth 100000
set_option maxHeartbeats 4000000
namespace My
def atB (e : Nat × Nat) (p : Nat) : Bool := p == e.1 || p == e.2
theorem atB_iff {e : Nat × Nat} {p : Nat} : atB e p = true ↔ At e p := by
  unfold atB At
  rw [Bool.or_eq_true, beq_iff_eq, beq_iff_eq]
end My
set_option maxHeartbeats 4000000
namespace RX
open PySem PySem.Spec PyProof.Rows
def TrD (h base : Heap) (e : Addr) (cls : Value) (od : Option Addr) (fl : Value) : Prop :=
  ∃ oe vs T oT ts, h.get? e = some oe ∧ (oe.cls = cls ∧ oe.dict = od) ∧ oe.data = .fields vs ∧ vs[1]? = some (.ref T) ∧ base.get? T = none ∧ T ≠ e ∧ h.get? T = some oT ∧ oT.data = .fields ts ∧ ts[3]? = some fl
structure Fl (base : Heap) (l : List Env) (e : Addr) (cls : Value) (od : Option Addr) (fl : Value) (h : Heap) : Prop where
  stays : base.StaysIn h
  new : base.get? e = none
  frames : h.FunFrames base l
  trace : TrD h base e cls od fl
theorem dict_mapFields (f : Array Value → Array Value) (o : Obj) : (o.mapFields f).dict = o.dict := by
  unfold Obj.mapFields
  split <;> rfl
section
variable {M : Model} {A : Around} {E : Value → Shared → Prop} {s : Shared} {base : Heap} {env : Env} {outer l : List Env} {L e : Addr} {cls fl : Value} {od : Option Addr} {Q : Unit → Shared → Prop}
theorem entry_at {oe : Obj} {vs : Array Value} {head : Value} {hadNext : Bool}
    (hfr : A.frames = some (env :: outer)) (hl : s.heap.FunFrames base (env :: outer)) (hf : env.frame = some L)
    (he : s.heap.get? e = some oe) (hkb : base.StaysIn s.heap) (hen : base.get? e = none) (hd : oe.data = .fields vs) (hsz : 1 < vs.size)
    (h : ∀ h', Fl base (env :: outer) e oe.cls oe.dict (rawInt L) h' → s.heap.UpToSlots h' → Q () { s with heap := h' }) :
    wpAny M A (do let a ← frameOf env; let pl ← entryPlaceOf L hadNext; let b ← EntryCells.newEntry head a .none (rawInt L) .none pl; setField (.ref e) 1 b) Q E s := by
  have out : e ∉ (env :: outer).filterMap (·.frame) := fun hm => by
    obtain ⟨_, o, ho, hnf⟩ := hl.mem hm
    rw [he] at ho; injection ho with ho; subst ho; exact hnf vs hd
  refine wpAny_bind (wpAny_frameOf_fun hfr hl hf fun h₁ hs₁ => ?_)
  refine wpAny_bind (wpAny_entryPlaceOf fun pl hpl => ?_)
  unfold EntryCells.newEntry newFields
  refine wpAny_bind (wpAny_newObj_type ?_ (hpl.sizeOk5 _ _ _ _ _))
  have he₁ : h₁.get? e = some oe := (hs₁.2.1 e out).trans he
  have kb₁ : base.StaysIn h₁ := fun b o hbo => (hs₁.2.1 b fun hm => by rw [(hl.mem hm).1] at hbo; cases hbo).trans (hkb b o hbo)
  generalize hot : ({ cls := .type "traceback", dict := none, data := .fields ([head, .ref L, .none, rawInt L, .none] ++ (if pl.isEmpty then List.replicate 6 Value.none else pl)).toArray } : Obj) = ot
  have hotd : ot.data = .fields ([head, .ref L, .none, rawInt L, .none] ++ (if pl.isEmpty then List.replicate 6 Value.none else pl)).toArray := by rw [← hot]
  have hotf : ot.isFreed = false := by rw [← hot]; rfl
  have he₂ := Heap.get?_push_of_some (h := h₁) ot he₁
  refine wpAny_setField he₂ hd hsz ?_
  have hTe : h₁.objs.size ≠ e := Nat.ne_of_gt (Heap.lt_size he₁)
  have hd₃ := Obj.data_mapFields hd (·.setIfInBounds 1 (Value.ref h₁.objs.size))
  have he₃ := Heap.get?_update_self (Obj.mapFields (·.setIfInBounds 1 (Value.ref h₁.objs.size))) he₂ (Obj.isFreed_of_fields hd₃)
  have hT₃ := (Heap.get?_update_other (h₁.push ot) (Obj.mapFields (·.setIfInBounds 1 (Value.ref h₁.objs.size))) (Ne.symm hTe)).trans (Heap.get?_push_size h₁ hotf)
  have keep : ∀ b o, b ≠ e → h₁.get? b = some o → ((h₁.push ot).update e (Obj.mapFields (·.setIfInBounds 1 (Value.ref h₁.objs.size)))).get? b = some o := fun b o hbe hb => by
    rw [Heap.get?_update_other _ _ (Ne.symm hbe)]
    exact Heap.get?_push_of_some _ hb
  have notE : ∀ b o, s.heap.get? b = some o → (∀ vs, o.data ≠ .fields vs) → b ≠ e := fun b o hb hnf q => by
    rw [q, he] at hb; injection hb with hb; subst hb; exact hnf vs hd
  refine h _ ⟨fun b o hbo => keep b o (fun q => by rw [q, hen] at hbo; cases hbo) (kb₁ b o hbo), hen, hl.of_keeps fun b o hb hnf => ?_, ?_⟩ fun b o hb hnf => ?_
  · obtain ⟨sl, hs⟩ := hs₁.2.2 b o hb
    exact ⟨_, keep b _ (notE b o hb hnf) hs, rfl⟩
  · exact ⟨_, _, h₁.objs.size, _, _, he₃, ⟨Obj.cls_mapFields _ _, dict_mapFields _ _⟩, hd₃, by simp [hsz], kb₁.fresh, hTe, hT₃, hotd, by first | (simp; done) | (rcases hpl with rfl | ⟨_, _, _, _, _, _, _, rfl⟩ <;> simp)⟩
  · obtain ⟨sl, hs⟩ := hs₁.2.2 b o hb
    exact ⟨sl, keep b _ (notE b o hb hnf) hs⟩
theorem note_first {oe : Obj} {vs : Array Value} (hfr : A.frames = some (env :: outer)) (hl : s.heap.FunFrames base (env :: outer)) (hf : env.frame = some L)
    (he : s.heap.get? e = some oe) (hkb : base.StaysIn s.heap) (hen : base.get? e = none) (hd : oe.data = .fields vs) (h1 : vs[1]? = some .none)
    (h : ∀ h', Fl base (env :: outer) e oe.cls oe.dict (rawInt L) h' → s.heap.UpToSlots h' → Q () { s with heap := h' }) : wpAny M A (noteFrame (.ref e) env) Q E s := by
  unfold noteFrame
  simp only [hf]
  refine wpAny_bind (wpAny_field he hd h1 ?_)
  rw [if_neg (by decide)]
  exact entry_at hfr hl hf he hkb hen hd (Array.getElem?_eq_some_iff.mp h1).1 h
theorem note_on (hfr : A.frames = some (env :: outer)) (hf : env.frame = some L) (x : Fl base (env :: outer) e cls od .none s.heap)
    (h : ∀ h', Fl base (env :: outer) e cls od (rawInt L) h' → s.heap.UpToSlots h' → Q () { s with heap := h' }) : wpAny M A (noteFrame (.ref e) env) Q E s := by
  obtain ⟨hkb, hen, hl, oe, vs, T, oT, ts, he, ⟨hc, hdd⟩, hd, h1, hnT, hTe, hT, hdT, h3⟩ := x
  subst hc hdd
  unfold noteFrame
  simp only [hf]
  refine wpAny_bind (wpAny_field he hd h1 ?_)
  rw [if_pos (show (Value.ref T != Value.none) = true from by simp)]
  refine wpAny_bind (wpAny_field hT hdT h3 ?_)
  rw [if_neg (show ¬ ((Value.none == rawInt L) = true) from by simp [rawInt])]
  refine wpAny_bind (wpAny_setField hT hdT (Array.getElem?_eq_some_iff.mp h3).1 ?_)
  have other : ∀ b, b ≠ T → (s.heap.update T (Obj.mapFields (·.setIfInBounds 3 Value.none))).get? b = s.heap.get? b := fun b hb => Heap.get?_update_other _ _ (Ne.symm hb)
  have notT : ∀ b o, s.heap.get? b = some o → (∀ vs, o.data ≠ .fields vs) → b ≠ T := fun b o hb hnf q => by
    rw [q, hT] at hb; injection hb with hb; subst hb; exact hnf ts hdT
  refine entry_at hfr (hl.of_keeps fun b o hb hnf => ⟨o, (other b (notT b o hb hnf)).trans hb, rfl⟩) hf ((other e (Ne.symm hTe)).trans he)
    (fun b o hbo => (other b fun q => by rw [q, hnT] at hbo; cases hbo).trans (hkb b o hbo)) hen hd (Array.getElem?_eq_some_iff.mp h1).1
    fun h' x1 x2 => h h' x1 fun b o hb hnf => x2 b o ((other b (notT b o hb hnf)).trans hb) hnf
theorem flight_off (x : Fl base l e cls od fl s.heap)
    (h : ∀ h', Fl base l e cls od .none h' → s.heap.UpToSlots h' → Q () { s with heap := h' }) : wpAny M A (setFlight (.ref e) none) Q E s := by
  obtain ⟨hkb, hen, hl, oe, vs, T, oT, ts, he, hcd, hd, h1, hnT, hTe, hT, hdT, h3⟩ := x
  have hsz3 : 3 < ts.size := (Array.getElem?_eq_some_iff.mp h3).1
  have other : ∀ b, b ≠ T → (s.heap.update T (Obj.mapFields (·.setIfInBounds 3 ((none : Option Addr).elim Value.none fun f => rawInt f)))).get? b = s.heap.get? b :=
    fun b hb => Heap.get?_update_other _ _ (Ne.symm hb)
  have notT : ∀ b o, s.heap.get? b = some o → (∀ vs, o.data ≠ .fields vs) → b ≠ T := fun b o hb hnf q => by
    rw [q, hT] at hb; injection hb with hb; subst hb; exact hnf ts hdT
  unfold setFlight
  refine wpAny_bind (wpAny_field he hd h1 ?_)
  rw [if_pos (show (Value.ref T != Value.none) = true from by simp)]
  refine wpAny_setField hT hdT hsz3 (h _ ⟨fun b o hbo => (other b fun q => by rw [q, hnT] at hbo; cases hbo).trans (hkb b o hbo), hen,
    hl.of_keeps fun b o hb hnf => ⟨o, (other b (notT b o hb hnf)).trans hb, rfl⟩, ?_⟩ fun b o hb hnf => ⟨o.slots, (other b (notT b o hb hnf)).trans hb⟩)
  exact ⟨oe, vs, T, _, _, (other e (Ne.symm hTe)).trans he, hcd, hd, h1, hnT, hTe, Heap.get?_update_self _ hT (Obj.isFreed_of_fields (Obj.data_mapFields hdT _)), Obj.data_mapFields hdT _, by simp [hsz3]⟩
theorem Fl.tail (x : Fl base (env :: outer) e cls od fl s.heap) : Fl base outer e cls od fl s.heap :=
  let ⟨k1, k2, ⟨_, _, k3⟩, k4⟩ := x
  ⟨k1, k2, k3, k4⟩
theorem leave_first {oe : Obj} {vs : Array Value} (hfr : A.frames = some (env :: outer)) (hl : s.heap.FunFrames base (env :: outer)) (hf : env.frame = some L)
    (he : s.heap.get? e = some oe) (hkb : base.StaysIn s.heap) (hen : base.get? e = none) (hd : oe.data = .fields vs) (h1 : vs[1]? = some .none)
    (h : ∀ h', Fl base outer e oe.cls oe.dict .none h' → s.heap.UpToSlots h' → Q () { s with heap := h' }) : wpAny M A (leaving env (.ref e)) Q E s := by
  unfold leaving
  refine wpAny_bind (note_first hfr hl hf he hkb hen hd h1 fun h₁ x₁ u₁ => ?_)
  refine flight_off (s := { s with heap := h₁ }) x₁ fun h₂ x₂ u₂ => h h₂ (Fl.tail (s := { s with heap := h₂ }) x₂) (u₁.trans u₂)
theorem leave_on (hfr : A.frames = some (env :: outer)) (hf : env.frame = some L) (x : Fl base (env :: outer) e cls od .none s.heap)
    (h : ∀ h', Fl base outer e cls od .none h' → s.heap.UpToSlots h' → Q () { s with heap := h' }) : wpAny M A (leaving env (.ref e)) Q E s := by
  unfold leaving
  refine wpAny_bind (note_on hfr hf x fun h₁ x₁ u₁ => ?_)
  refine flight_off (s := { s with heap := h₁ }) x₁ fun h₂ x₂ u₂ => h h₂ (Fl.tail (s := { s with heap := h₂ }) x₂) (u₁.trans u₂)
end
end RX
set_option maxHeartbeats 4000000
namespace RX
open PySem PySem.Spec PyProof.Rows L2
def CXe (P : Program) (w : World) : CXT := fun outer H s E ev s' =>
  ∃ e cls od H' B, ev = .ref e ∧ s'.os = s.os ∧ AllBare s'.gens ∧ Un (frs outer) [] H H' s.heap s'.heap ∧ HOk P w H' s'.heap ∧ Fl B outer e cls od .none s'.heap ∧
    (∀ b o, s.heap.get? b = some o → b ∉ frs outer → ∃ o', B.get? b = some o') ∧ (∀ b u, H' b = some u → ∃ o, B.get? b = some o) ∧ E cls od H'
theorem same_of_stays {B h : Heap} {b : Addr} {o o' : Obj} (k : B.StaysIn h) (e : B.get? b = some o') (q : h.get? b = some o) : B.get? b = some o := by
  have := k b o' e
  rw [q] at this; cases this; exact e
theorem hok_stays {P : Program} {w : World} {H : Hp} {B h h' : Heap} (x : HOk P w H h) (k : ∀ b u, H b = some u → ∃ o, B.get? b = some o) (s1 : B.StaysIn h) (s2 : B.StaysIn h') : HOk P w H h' := fun a u e => by
  refine (x a u e).stay (fun b v hb q => ?_) (fun _ q => q) fun _ _ q => q
  have go : ∀ z, H b = some z → h'.get? b = some v := fun z r => by
    obtain ⟨o, ho⟩ := k b z r
    exact s2 b v (same_of_stays s1 ho q)
  rcases hb with rfl | hb
  · exact go u e
  · exact go _ hb
section
variable {X : Cx} {pins : List (Addr × Obj)} {σ : L2.St} {H : Hp} {s s' : Shared} {E E' : XK} {ev : Value} {M : Model} {EE : Value → Shared → Prop}
theorem mem_stack (hst : X.stack = X.env :: X.outer) (hf : X.env.frame = some X.env.locals) {b : Addr} (h : b ∈ frs X.stack) : b = X.env.locals ∨ b ∈ frs X.outer := by
  rw [hst] at h
  unfold frs at h
  rw [List.filterMap_cons, hf] at h
  exact List.mem_cons.mp h
theorem mem_stack_of (hst : X.stack = X.env :: X.outer) {b : Addr} (h : b ∈ frs X.outer) : b ∈ frs X.stack := by
  rw [hst]
  unfold frs at h ⊢
  rw [List.filterMap_cons]
  split
  · exact h
  · exact List.mem_cons_of_mem _ h
theorem pass_on (hst : X.stack = X.env :: X.outer) (hf : X.env.frame = some X.env.locals) (hex : X.ex = []) (I : Inv X pins σ H s) (x : CXe X.prog X.w X.stack H s E ev s')
    (hE : ∀ c d H', E c d H' → E' c d H') : wpAny M X.A (leaving X.env ev) (fun _ s'' => CXe X.prog X.w X.outer X.H₀ X.s₀ E' ev s'') EE s' := by
  obtain ⟨e, cls, od, H', B, rfl, os, bare, un, hok, fl, k1, k2, q⟩ := x
  have noA : ∀ b : Addr, b ∉ X.ex := fun b z => by rw [hex] at z; cases z
  have fl' : Fl B (X.env :: X.outer) e cls od .none s'.heap := by rw [← hst]; exact fl
  refine leave_on (by rw [← hst]; exact I.ok.frames) hf fl' fun h' f u => ⟨e, cls, od, H', B, rfl, os.trans I.os, bare, ?_, hok_stays hok k2 fl.stays f.stays, f, ?_, k2, hE _ _ _ q⟩
  · have nL : ∀ b o, X.s₀.heap.get? b = some o → b ≠ X.env.locals := fun b o e => Nat.ne_of_lt (Nat.lt_of_lt_of_le (Heap.lt_size e) I.ok.above)
    have out : ∀ b o, X.s₀.heap.get? b = some o → b ∉ frs X.outer → b ∉ frs X.stack := fun b o e n z => (mem_stack hst hf z).elim (nL b o e) n
    have slot : ∀ b o, X.s₀.heap.get? b = some o → X.H₀ b = none → b ∈ frs X.outer → ∃ sl, h'.get? b = some { o with slots := sl } := fun b o e n hb => by
      obtain ⟨sl, e1⟩ := I.base.slot b o e n hb (noA b)
      obtain ⟨sl2, e2⟩ := un.slot b _ e1 (I.base.free b o e n (noA b)) (mem_stack_of hst hb) (by simp)
      obtain ⟨_, o3, ho3, hnf⟩ := fl.frames.mem (mem_stack_of hst hb)
      rw [e2] at ho3; cases ho3
      obtain ⟨sl3, e3⟩ := u b _ e2 hnf
      exact ⟨sl3, e3⟩
    have keep : ∀ b o, X.s₀.heap.get? b = some o → X.H₀ b = none → b ∉ frs X.outer → h'.get? b = some o := fun b o e n hb => by
      have e1 := I.base.keep b o e n hb (noA b)
      have e2 := un.keep b o e1 (I.base.free b o e n (noA b)) (out b o e hb) (by simp)
      obtain ⟨o', h3⟩ := k1 b o e1 (out b o e hb)
      exact f.stays b o (same_of_stays fl.stays h3 e2)
    refine ⟨fun b o e n hb _ => keep b o e n hb, fun b o e n hb _ => slot b o e n hb, fun b o e n _ => ?_, fun b o e _ => ?_, fun b xs e => un.tups b xs (I.base.tups b xs e), fun b o xs e => un.frzs b o xs (I.base.frzs b o xs e), fun b ps e => ?_⟩
    · obtain ⟨o', e1⟩ := I.base.there b o e (noA b)
      exact un.free b o' e1 (I.base.free b o e n (noA b)) (by simp)
    · by_cases hb : b ∈ frs X.outer
      · obtain ⟨sl, z⟩ := slot b o e (I.ok.frf b hb) hb
        exact ⟨_, z⟩
      · obtain ⟨o', e1⟩ := I.base.there b o e (noA b)
        obtain ⟨o2, h2⟩ := k1 b o' e1 (out b o e hb)
        exact ⟨o2, f.stays b o2 h2⟩
    · obtain ⟨m1, e1⟩ := I.base.tbls b ps e
      obtain ⟨m2, e2⟩ := un.tbls b _ e1
      exact ⟨m1 ++ m2, by rw [e2, Array.append_assoc]⟩
  · intro b o e hb
    obtain ⟨o', e1⟩ := I.base.there b o e (noA b)
    exact k1 b o' e1 fun z => (mem_stack hst hf z).elim (Nat.ne_of_lt (Nat.lt_of_lt_of_le (Heap.lt_size e) I.ok.above)) hb
end
theorem passX {P : Program} {w : World} {K : PySem.W.Frag} {mg : Str → Option Value} {base : Heap} {N : List Str} {qual : Str} {scope : Scope} {f : Addr} {cd : Value} {A : Around} {outer : List Env} {s : Shared} {H : Hp} {E E' : XK}
    (hE : ∀ c d H', E' c d H' → E c d H') : Passes (CXe P w) (cxOf (CXe P w) P w K mg base N qual scope f cd A outer s H E) E' :=
  fun _ _ _ _ _ _ I x => pass_on (X := cxOf (CXe P w) P w K mg base N qual scope f cd A outer s H E) rfl rfl rfl I x hE
theorem ownX {P : Program} {w : World} {K : PySem.W.Frag} {mg : Str → Option Value} {base : Heap} {N : List Str} {qual : Str} {scope : Scope} {f : Addr} {cd : Value} {A : Around} {outer : List Env} {s : Shared} {H : Hp} {E : XK} {CX : CXT} :
    PassesOwn (model P w) (cxOf CX P w K mg base N qual scope f cd A outer s H E).A (cxOf CX P w K mg base N qual scope f cd A outer s H E).env (cxOf CX P w K mg base N qual scope f cd A outer s H E).xe := PassesOwn.leaving
end RX
set_option maxHeartbeats 4000000
set_option maxRecDepth 100000
namespace RX
open PySem PySem.Spec PyProof.Rows L2 PySem.W
open Builtin Builtin.ObjectAttr
abbrev veMro : List Value := [.type "ValueError", .type "Exception", .type "BaseException", .type "object"]
def strKey (e : DictEntry) : Bool := match e.key with | .str _ _ => true | _ => false
def xcIn (K : Frag) (C D : Addr) : Bool := match K.lookup C, K.lookup D with
  | some ⟨c, _, .cls cd, sl⟩, some ⟨_, _, .cls dd, _⟩ => c == .type "type" && cd.mro == .ref C :: .ref D :: veMro && !cd.hasDel && cd.hasDict && sl.toList.length == 6 && (sl.toList[4]?).join == some (.builtin "ValueError.__new__") &&
      (match K.lookup dd.ns with | some ⟨_, _, .dict es _, _⟩ => es.toList.all strKey && (nsFind es "__init__").isNone | _ => false)
  | _, _ => false
theorem strKeys_of {es : Array DictEntry} (h : es.toList.all strKey = true) : StrKeys es := by
  intro e he
  have q : strKey e = true := List.all_eq_true.mp h e (by simpa using he)
  unfold strKey at q
  split at q
  · rename_i n t hk; exact ⟨n, t, hk⟩
  · cases q
def ClsAt (h : Heap) (C D : Addr) : Prop := OwnTail h veMro (.ref D :: veMro) ∧ ∃ nm q N bs sn sub ab col dd k0 k1 k2 k3 k5, h.get? C = some (excClassObj nm q C N bs (.ref D :: veMro) true sn sub ab col dd k0 k1 k2 k3 k5 "ValueError.__new__")
theorem clsAt_of {K : Frag} {h : Heap} {C D : Addr} (X : K.In h) (e : xcIn K C D = true) : ClsAt h C D := by
  unfold xcIn at e
  split at e
  · rename_i c dd cd sl c2 d2 dd2 sl2 hC hD
    simp only [Bool.and_eq_true, Bool.not_eq_true', beq_iff_eq] at e
    obtain ⟨⟨⟨⟨⟨⟨e1, e2⟩, e3⟩, e4⟩, e5⟩, e6⟩, e7⟩ := e
    split at e7
    · rename_i c3 d3 es n3 sl3 hN
      rw [Bool.and_eq_true] at e7
      refine ⟨.own (X _ _ hD) ⟨_, es, n3, X _ _ hN, rfl, strKeys_of e7.1, fun _ => rfl⟩ (by simpa using e7.2) .base, ?_⟩
      obtain ⟨nm, bs, mro, ns, qn, hd, sn, sub, ab, col, hdel⟩ := cd
      dsimp only at e2 e3 e4
      subst e1 e2 e3 e4
      obtain ⟨l⟩ := sl
      match l, e5, e6 with
      | [k0, k1, k2, k3, k4, k5], _, e6 =>
        have e6' : k4 = some (.builtin "ValueError.__new__") := by simpa using e6
        subst e6'
        exact ⟨_, _, _, _, _, _, _, _, _, _, _, _, _, _, X _ _ hC⟩
    · cases e7
  · cases e
theorem ClsAt.keeps {h h' : Heap} {C D : Addr} (x : ClsAt h C D) (k : ∀ b o, h.get? b = some o → h'.get? b = some o) : ClsAt h' C D := by
  obtain ⟨T, nm, q, N, bs, sn, sub, ab, col, dd, k0, k1, k2, k3, k5, hC⟩ := x
  exact ⟨T.keeps k, _, _, _, _, _, _, _, _, _, _, _, _, _, _, k _ _ hC⟩
section
variable {prog : Program} {w : World} {A : Around} {E : Value → Shared → Prop} {h : Heap} {g : Array GenState} {d : Drawn} {t : Nat} {os : OsState} {C D : Addr}
abbrev rawArgs (rest : List Value) : Obj := { cls := .type "tuple", data := .seq rest.toArray }
abbrev rawF (t : Addr) : Array Value := #[.ref t, .none, .none, .none, .bool false, .none]
abbrev rawX (C t : Addr) : Obj := { cls := .ref C, data := .fields (rawF t) }
theorem type_call_init {rest : List Value} {fI : Addr} {Q : Fin → Shared → Prop} (hc : ClsAt h C D) (hi : Looks (model prog w) h (typeLookup (.ref C) "__init__") (some (.ref fI)))
    (hb : ∀ self, Looks (model prog w) h (bindSpecial (.ref fI) self) (.ref fI, [self]))
    (hq : wpAny (model prog w) A (call (.ref fI) (.ref (h.objs.size + 1) :: rest)) (fun r s' => r = .none ∧ Q (.done (.ret (.ref (h.objs.size + 1)))) s') E
      ⟨(h.push (rawArgs rest)).push (rawX C h.objs.size), g, d, t, os⟩) (hrest : rest.length ≤ sizeLine) :
    wpAny (model prog w) A (Builtin.«type.__call__» ⟨.ref C :: rest, []⟩) Q E ⟨h, g, d, t, os⟩ := by
  obtain ⟨T, nm, q, N, bs, sn, sub, ab, col, dd, k0, k1, k2, k3, k5, hC⟩ := hc
  have F := PySem.F.excBase_ValueError
  repeat (first | with_reducible refine wpAny_loadPart_at hC ?_ | with_reducible refine wpAny_madeBy_exc hC ?_ | wp_step)
  refine codeAny_call_builtin_code (Code.quiet_builtin _ F.quiet) (wpAny_check_new_subT F T hC ?_)
  refine codeAny_exc_new_subT F T hC ?_ hrest
  show wpAny _ _ _ _ _ _
  have k : ∀ b o, h.get? b = some o → ((h.push (rawArgs rest)).push (rawX C h.objs.size)).get? b = some o := fun b o e => Heap.get?_push_of_some _ (Heap.get?_push_of_some _ e)
  have hC₁ := Heap.get?_push_of_some { cls := .ref C, data := .fields #[.ref h.objs.size, .none, .none, .none, .bool false, .none] } (Heap.get?_push_of_some { cls := .type "tuple", data := .seq rest.toArray } hC)
  have hget : ((h.push { cls := .type "tuple", data := .seq rest.toArray }).push { cls := .ref C, data := .fields #[.ref h.objs.size, .none, .none, .none, .bool false, .none] }).get? (h.objs.size + 1) = some
      { cls := .ref C, data := .fields #[.ref h.objs.size, .none, .none, .none, .bool false, .none] } := by heap_get
  have hcC : (Value.ref C :: Value.ref D :: veMro).contains (.ref C) = true := by simp
  have hi₁ := hi.keeps k
  have hb₁ := (hb (.ref (h.objs.size + 1))).keeps k
  unfold isInstance
  repeat (first | with_reducible refine wpAny_loadPart_at hget ?_ | (with_reducible refine wpAny_isSubtype_exc hC₁ ?_; rw [hcC]) | wp_step)
  show wpAny _ _ (typeLookup (.ref C) _) _ _ _
  refine hi₁.here (s := ⟨(h.push (rawArgs rest)).push (rawX C h.objs.size), g, d, t, os⟩) ?_
  refine wpAny_holding (wpAny_bind (hb₁.here (s := ⟨(h.push (rawArgs rest)).push (rawX C h.objs.size), g, d, t, os⟩) ?_))
  refine wpAny_bind (wpAny_mono hq (fun r s' hr => ?_) fun _ _ x => x)
  obtain ⟨rfl, hQ⟩ := hr
  wp_walk
  exact hQ
theorem call_exc_init {rest : List Value} {fI : Addr} {Q : Value → Shared → Prop} (hc : ClsAt h C D) (hi : Looks (model prog w) h (typeLookup (.ref C) "__init__") (some (.ref fI)))
    (hb : ∀ self, Looks (model prog w) h (bindSpecial (.ref fI) self) (.ref fI, [self]))
    (hq : wpAny (model prog w) (A.under (.builtin "type.__call__" ⟨.ref C :: rest, []⟩)) (call (.ref fI) (.ref (h.objs.size + 1) :: rest)) (fun r s' => r = .none ∧ Q (.ref (h.objs.size + 1)) s') E
      ⟨(h.push (rawArgs rest)).push (rawX C h.objs.size), g, d, t, os⟩) (hrest : rest.length ≤ sizeLine) :
    wpAny (model prog w) A (call (.ref C) rest) Q E ⟨h, g, d, t, os⟩ := by
  obtain ⟨T, nm, q, N, bs, sn, sub, ab, col, dd, k0, k1, k2, k3, k5, hC⟩ := id hc
  have f1 := tc_lookup
  have f2 := tc_bind (.ref C)
  have hT : (⟨h, g, d, t, os⟩ : Shared).TypeIs (.ref C) "type" := ⟨_, hC, rfl⟩
  refine wpAny_call (codeAny_of_tree ?_)
  show wpAny _ _ (callAny (.ref C) _) _ _ _
  repeat (any_goals (first | assumption | with_reducible refine wpAny_loadPart_at hC ?_ | wp_step))
  refine ⟨rfl, ?_⟩
  refine codeAny_call_builtin_at (Code.quiet_builtin _ (by decide +kernel)) entry_typeCall (wpAny_check_type_call_sub hC (type_call_init hc hi hb ?_ hrest))
  exact hq
end
section
variable {prog : Program} {w : World} {A : Around} {E : Value → Shared → Prop} {K : Frag} {C D x : Addr} {s : Shared}
theorem store_x {vs : Array Value} {name : Str} {v : Value} {Q : Unit → Shared → Prop} (X : K.In s.heap) (hc : xcIn K C D = true) (hs : findIn K (.ref C) "__setattr__" = some (some (.builtin "object.__setattr__"))) (ha : findIn K (.ref C) name = some none)
    (hx : s.heap.get? x = some ⟨.ref C, none, .fields vs, #[]⟩)
    (hq : ∀ h' tk, h'.get? x = some ⟨.ref C, some s.heap.objs.size, .fields vs, #[]⟩ → h'.Ns1 s.heap.objs.size (fun y => if y = name then some v else none) → (∀ b o, b ≠ x → s.heap.get? b = some o → h'.get? b = some o) → Q () { s with heap := h', toks := tk }) :
    wpAny (model prog w) A (setAttr (.ref x) name v) Q E s := by
  have SF := PySem.F.store_ValueError
  have I : InstAt s.heap x ⟨.ref C, none, .fields vs, #[]⟩ C none := ⟨hx, rfl, rfl, trivial⟩
  refine set_plain X I hs ?_
  obtain ⟨T, nm, q, N, bs, sn, sub, ab, col, dd, k0, k1, k2, k3, k5, hC⟩ := clsAt_of X hc
  obtain ⟨h, g, d, t, os⟩ := s
  have hm : Looks (model prog w) h (mroOf (.ref C)) (.ref C :: .ref D :: veMro) := ((Looks.ld (part := none) hC).andThen .now).andThen .now
  have sub' : Looks (model prog w) h (isInstance (.ref x) (.type "object")) true := I.type.andThen (by
    unfold isSubtype
    exact hm.andThen .now)
  refine codeAny_call_builtin SF.slot.plain SF.entry (@check_slot (model prog w) _ _ ⟨h, g, d, t + 1, os⟩ "object.__setattr__" "object" "__setattr__" (.ref x) [.str name t, v] [] _ SF.kind SF.split sub' (SF.args (.ref x) (.str name t) v) ?_)
  rw [osa_eq, refuse_eq]
  refine wpAny_bind (wpAny_bind (I.type.here (s := ⟨h, g, d, t + 1, os⟩) (wpAny_bind (hm.here (s := ⟨h, g, d, t + 1, os⟩) ?_))))
  rw [refuseLoop_ref, refuseLoop_ref, SF.passes]
  refine wpAny_pure (wpAny_bind (I.type.here (s := ⟨h, g, d, t + 1, os⟩) (wpAny_bind ((looks_findIn X ha).here (s := ⟨h, g, d, t + 1, os⟩) (wpAny_bind (wpAny_pure ?_))))))
  have hx₁ : (h.push { cls := .type "dict", data := .dict #[] }).get? x = some ⟨.ref C, none, .fields vs, #[]⟩ := Heap.get?_push_of_some _ hx
  have hxs : x ≠ h.objs.size := Nat.ne_of_lt (Heap.lt_size hx)
  refine wpAny_bind (wpAny_pure (wpAny_bind (wpAny_bind (wpAny_loadPart hx ?_))))
  refine wpAny_bind (wpAny_bind (wpAny_load hC (wpAny_pure ?_)))
  refine wpAny_bind (wpAny_alloc' ?_)
  refine wpAny_bind (wpAny_update' hx₁ ?_)
  refine wpAny_pure ?_
  have hgd : ((h.push { cls := .type "dict", data := .dict #[] }).update x fun o => { cls := o.cls, dict := some h.objs.size, data := o.data, slots := o.slots }).get? h.objs.size
      = some { cls := .type "dict", data := .dict #[] } :=
    (Heap.get?_update_ne _ _ _ _ hxs.symm).trans (Heap.get?_push_at rfl rfl)
  have hnd : ((h.push { cls := .type "dict", data := .dict #[] }).update x fun o => { cls := o.cls, dict := some h.objs.size, data := o.data, slots := o.slots }).Ns h.objs.size (fun _ => none) :=
    ⟨_, #[], _, hgd, rfl, fun e he => absurd he (by simp), fun _ => rfl⟩
  show wpAny _ _ (storeInDict h.objs.size (.str name t) name v) _ _ _
  unfold storeInDict newKeyGuard
  refine wpAny_bind (wpAny_pure (wpAny_bind (wpAny_nsSet1 (Heap.Ns1.of_empty hnd) fun h' hn' hs => ?_)))
  obtain ⟨oD, esD, epD, hoD, hdD, hcD⟩ := hn'.count (PySem.Within.cons name v PySem.Within.nil)
  refine wpAny_bind (wpAny_lookBehind hoD (by rw [hdD]; exact pastItsLine_dict (Nat.le_trans hcD (by rw [List.length_cons, List.length_nil, sizeLine_eq]; omega))) ?_)
  refine wpAny_pure (hq h' _ ?_ hn' fun b o hb e => ?_)
  · exact (hs.2 x hxs).trans (Heap.get?_update_self _ hx₁ rfl)
  · exact (hs.2 b (Nat.ne_of_lt (Heap.lt_size e))).trans ((Heap.get?_update_ne _ _ _ _ hb).trans (Heap.get?_push_of_some _ e))
end
end RX
set_option maxHeartbeats 4000000
set_option maxRecDepth 100000
namespace RX
open PySem PySem.Spec PyProof.Rows L2 PySem.W
def XV (C : Addr) (od : Option Addr) (fv : Array Value) (e : Addr) : HO := .ext fun h => h.get? e = some ⟨.ref C, od, .fields fv, #[]⟩
theorem XV.ok {P : Program} {w : World} {H : Hp} {h : Heap} {C e : Addr} {od : Option Addr} {fv : Array Value} (x : h.get? e = some ⟨.ref C, od, .fields fv, #[]⟩) : ObjOk P w H h e (XV C od fv e) :=
  ⟨x, ⟨_, x⟩, fun _ _ p k => k _ p⟩
theorem XV.get {P : Program} {w : World} {H : Hp} {h : Heap} {C e : Addr} {od : Option Addr} {fv : Array Value} (x : HOk P w H h) (q : H e = some (XV C od fv e)) : h.get? e = some ⟨.ref C, od, .fields fv, #[]⟩ := (x e _ q).1
structure XCl (K : Frag) (C D : Addr) : Prop where
  cls : xcIn K C D = true
  sa : findIn K (.ref C) "__setattr__" = some (some (.builtin "object.__setattr__"))
  kp : keepIn K (.ref C) = true
def sFldX (K : Frag) (ta tv : TE) (f : Str) : TS := fun D σ H => tv σ H fun y H1 => ta σ H1 fun x H2 => ∃ e C Dd fv, x = .ref e ∧ H2 e = some (XV C none fv e) ∧ XCl K C Dd ∧ findIn K (.ref C) f = some none ∧
  ∀ dx, H2 dx = none → dx ≠ e → D.nx σ (upd (upd H2 dx (.xd [(f, y)])) e (XV C (some dx) fv e))
section
variable {X : Cx} {o value : Expr} {f : Str} {pos pos' : Pos} {ta tv : TE}
theorem ps_fldX (ha : PE X o ta) (hv : PE X value tv) (hs : swapsWith value (some (.Attribute o f pos')) pos.line X.env = pure false) : PS X (.Assign [.Attribute o f pos'] value pos) (sFldX X.K ta tv f) := by
  intro pins s σ H D I h
  refine plainObj_wpAny_Assign_Attribute (thn (hv pins s σ H _ I h) fun u s1 ⟨y, H1, I1, ry, q⟩ => thn (ha pins s1 σ H1 _ I1 q) fun ov s2 ⟨x, H2, I2, rx, e, C, Dd, fv, ex, ea, c, n, q2⟩ => ?_) hs
  subst ex
  obtain rfl : ov = Value.ref e := rx
  have hx := XV.get I2.hok ea
  have hn : H2 s2.heap.objs.size = none := I2.hok.fresh (Nat.le_refl _)
  have hne : s2.heap.objs.size ≠ e := Nat.ne_of_gt (Heap.lt_size hx)
  refine store_x I2.kIn c.cls c.sa n hx fun h' tk g1 g2 g3 => ?_
  have ne1 : ∀ b v, H2 b = some v → (∀ φ, v ≠ .ext φ) → b ≠ e := fun b v r nv z => by rw [z, ea] at r; exact nv _ (Option.some.inj r).symm
  have ne2 : ∀ b v, H2 b = some v → b ≠ s2.heap.objs.size := fun b v r z => by rw [z, hn] at r; cases r
  have ne3 : ∀ b, H2 b = none → b ≠ e := fun b r z => by rw [z, ea] at r; cases r
  have at3 : ∀ b, b ≠ e → b ≠ s2.heap.objs.size → upd (upd H2 s2.heap.objs.size (.xd [(f, y)])) e (XV C (some s2.heap.objs.size) fv e) b = H2 b := fun b h1 h2 => by rw [upd_ne h1, upd_ne h2]
  refine ⟨σ, _, I2.un (H' := upd (upd H2 s2.heap.objs.size (.xd [(f, y)])) e (XV C (some s2.heap.objs.size) fv e)) (h' := h') (t' := tk) ⟨?_, ?_, ?_, ?_, ?_, ?_, ?_⟩ fun b v r => ?_, q2 _ hn hne⟩
  · exact fun b ob r n _ _ => g3 b ob (ne3 b n) r
  · exact fun b ob r n _ _ => ⟨ob.slots, g3 b ob (ne3 b n) r⟩
  · exact fun b ob r n _ => by rw [at3 b (ne3 b n) (Nat.ne_of_lt (Heap.lt_size r))]; exact n
  · intro b ob r _
    by_cases z : b = e
    · subst z; exact ⟨_, g1⟩
    · exact ⟨_, g3 b ob z r⟩
  · exact fun b xs r => by rw [at3 b (ne1 b _ r fun _ => by simp) (ne2 b _ r)]; exact r
  · exact fun b ob xs r => by rw [at3 b (ne1 b _ r fun _ => by simp) (ne2 b _ r)]; exact r
  · exact fun b ps r => ⟨#[], by rw [at3 b (ne1 b _ r fun _ => by simp) (ne2 b _ r), r]; simp⟩
  · by_cases z : b = e
    · subst z; rw [upd_same] at r; cases r; exact XV.ok g1
    · by_cases z2 : b = s2.heap.objs.size
      · subst z2
        rw [upd_ne z, upd_same] at r; cases r
        refine ⟨_, g2, fun g => ?_⟩
        by_cases w : g = f
        · subst w
          rw [if_pos rfl, List.lookup_cons_self]; exact ry
        · rw [if_neg w, show List.lookup g [(f, y)] = none from by unfold List.lookup; rw [beq_eq_false_iff_ne.mpr w]; rfl]; trivial
      · rw [at3 b z z2] at r
        refine (I2.hok b v r).stay (fun c ob hc q => g3 c ob ?_ q) (fun c q => ?_) fun c xs q => ?_
        · rcases hc with rfl | hc
          · exact z
          · exact ne1 c _ hc fun _ => by simp
        · rw [at3 c (ne1 c _ q fun _ => by simp) (ne2 c _ q)]; exact q
        · rw [at3 c (ne1 c _ q fun _ => by simp) (ne2 c _ q)]; exact q
end
section
variable {M : Model} {A : Around} {E : Value → Shared → Prop} {s : Shared} {env : Env} {C D : Addr} {Q : Flow → Shared → Prop}
theorem raise_made {x : Sem Value} (hh : A.handled = none)
    (h : wpAny M A x (fun v s₁ => ∃ e t od, v = .ref e ∧ ClsAt s₁.heap C D ∧ s₁.heap.get? e = some { cls := .ref C, dict := od, data := .fields #[.ref t, .none, .none, .none, .bool false, .none] } ∧ E (.ref e) s₁) E s) : wpAny M A (raiseStmt env (some x) none) Q E s := by
  have hcB : (Value.ref C :: Value.ref D :: veMro).contains (.type "BaseException") = true := by
    rw [List.contains_cons, List.contains_cons]
    exact Bool.or_eq_true_iff.mpr (.inr (Bool.or_eq_true_iff.mpr (.inr (by decide))))
  unfold raiseStmt
  refine wpAny_bind (wpAny_mono h (fun v s₁ h₁ => ?_) fun _ _ x => x)
  obtain ⟨e, t, od, rfl, ⟨T, nm, q, N, bs, sn, sub, ab, col, dd, k0, k1, k2, k3, k5, hC⟩, he, hE⟩ := h₁
  obtain ⟨hp, g, d, tk, os⟩ := s₁
  repeat (first | with_reducible refine wpAny_loadPart_at he ?_ | with_reducible refine wpAny_loadPart_at hC ?_ | (with_reducible refine wpAny_isSubtype_exc hC ?_; rw [hcB]) | wp_step)
  exact wpAny_raiseNew_none hh hE
theorem exec_raise {prog : Program} {w : World} {ex : Expr} {pos : Pos} (hh : A.handled = none)
    (h : wpAny (model prog w) A (eval ex env) (fun v s₁ => ∃ e t od, v = .ref e ∧ ClsAt s₁.heap C D ∧ s₁.heap.get? e = some { cls := .ref C, dict := od, data := .fields #[.ref t, .none, .none, .none, .bool false, .none] } ∧ E (.ref e) s₁) E s) :
    wpAny (model prog w) A (exec (.Raise (some ex) none pos) env) Q E s := by
  rw [arm_exec_Raise]
  first
    | exact wpAny_bind (wpAny_standAt (raise_made (C := C) (D := D) hh (wpAny_bind (wpAny_mono h (fun v s₃ h₃ => wpAny_bind (wpAny_standAt (wpAny_pure h₃))) fun _ _ x => x))))
    | (simp only [evalOpt, Option.map]; exact wpAny_bind (wpAny_standAt (raise_made (C := C) (D := D) hh (wpAny_bind (wpAny_mono h (fun v s₃ h₃ => wpAny_bind (wpAny_standAt (wpAny_pure h₃))) fun _ _ x => x)))))
end
end RX
set_option maxHeartbeats 4000000
set_option maxRecDepth 100000
namespace RX
open PySem PySem.Spec PyProof.Rows L2 PySem.W
theorem objAt {P : Program} {w : World} {H : Hp} {h : Heap} {a : Addr} {o : HO} (x : ObjOk P w H h a o) : ∃ u, h.get? a = some u := by
  cases o with
  | lst xs => obtain ⟨_, _, _, _, e⟩ := x; exact ⟨_, e⟩
  | tup xs => obtain ⟨_, _, _, o, e, _⟩ := x; exact ⟨_, e⟩
  | dK kvs => obtain ⟨_, _, _, _, o, _, _, e, _⟩ := x; exact ⟨_, e⟩
  | dT kvs => obtain ⟨_, _, _, _, o, _, _, e, _⟩ := x; exact ⟨_, e⟩
  | set S n => obtain ⟨o, _, _, _, e, _⟩ := x; exact ⟨_, e⟩
  | ins C dx fs => obtain ⟨_, _, _, e, _⟩ := x; exact ⟨_, e⟩
  | own y => exact x
  | xd fs => obtain ⟨_, ⟨_, _, _, e, _⟩, _⟩ := x; exact ⟨_, e⟩
  | rng lo hi => obtain ⟨_, _, _, e⟩ := x; exact ⟨_, e⟩
  | frz ob u => obtain ⟨e, _⟩ := x; exact ⟨_, e⟩
  | tbl ps => exact ⟨_, (show h.get? a = some _ from x)⟩
  | met f y => exact ⟨_, (show h.get? a = some _ from x)⟩
  | ext φ => obtain ⟨_, e, _⟩ := x; exact e
def untr (H : Hp) (e : Addr) : Hp := fun b => if b = e then none else H b
theorem untr_ne {H : Hp} {e b : Addr} (h : b ≠ e) : untr H e b = H b := by unfold untr; rw [if_neg h]
theorem untr_same {H : Hp} {e : Addr} : untr H e e = none := by unfold untr; rw [if_pos rfl]
section
variable {X : Cx} {pins : List (Addr × Obj)} {σ : L2.St} {H : Hp} {s : Shared}
theorem inv_untr {e : Addr} (I : L2.Inv X pins σ H s) {φ : Heap → Prop} (he : H e = some (.ext φ)) : L2.Inv X pins σ (untr H e) s := by
  have free : ∀ b, H b = none → untr H e b = none := fun b q => by unfold untr; split <;> first | rfl | exact q
  have ne : ∀ b v, H b = some v → (∀ φ, v ≠ .ext φ) → b ≠ e := fun b v r nv z => by rw [z, he] at r; exact nv _ (Option.some.inj r).symm
  refine ⟨I.ok, I.os, I.bare, ⟨I.base.keep, I.base.slot, fun b o q n hx => free b (I.base.free b o q n hx), I.base.there, fun b xs q => ?_, fun b o xs q => ?_, fun b ps q => ?_⟩, I.loc, I.cell, free _ I.free, fun x c q => free _ (I.freeC x c q), fun p hp => ?_, fun b u q => ?_, I.len⟩
  · have r := I.base.tups b xs q
    rw [untr_ne (ne b _ r fun _ => by simp)]; exact r
  · have r := I.base.frzs b o xs q
    rw [untr_ne (ne b _ r fun _ => by simp)]; exact r
  · obtain ⟨m, r⟩ := I.base.tbls b ps q
    exact ⟨m, by rw [untr_ne (ne b _ r fun _ => by simp)]; exact r⟩
  · obtain ⟨e1, n, r⟩ := I.pin p hp
    exact ⟨e1, free _ n, r⟩
  · have hb : b ≠ e := fun z => by rw [z, untr_same] at q; cases q
    rw [untr_ne hb] at q
    refine (I.hok b u q).stay (fun _ _ _ z => z) (fun c z => ?_) fun c xs z => ?_
    · rw [untr_ne (ne c _ z fun _ => by simp)]; exact z
    · rw [untr_ne (ne c _ z fun _ => by simp)]; exact z
theorem un_leave {outer : List Env} {H₀ H' : Hp} {h₀ h h' B : Heap} (un : Un (frs outer) [] H₀ H' h₀ h) (s1 : B.StaysIn h) (s2 : B.StaysIn h') (k1 : ∀ b o, h₀.get? b = some o → b ∉ frs outer → ∃ o', B.get? b = some o')
    (frf : ∀ b ∈ frs outer, H₀ b = none) (nf : ∀ b ∈ frs outer, ∀ o, h.get? b = some o → ∀ vs, o.data ≠ .fields vs) (u : h.UpToSlots h') : Un (frs outer) [] H₀ H' h₀ h' := by
  have slot : ∀ b o, h₀.get? b = some o → H₀ b = none → b ∈ frs outer → ∃ sl, h'.get? b = some { o with slots := sl } := fun b o e n hb => by
    obtain ⟨sl, e1⟩ := un.slot b o e n hb (by simp)
    obtain ⟨sl2, e2⟩ := u b _ e1 (nf b hb _ e1)
    exact ⟨sl2, e2⟩
  refine ⟨fun b o e n hb _ => ?_, fun b o e n hb _ => slot b o e n hb, un.free, fun b o e _ => ?_, un.tups, un.frzs, un.tbls⟩
  · obtain ⟨o', h3⟩ := k1 b o e hb
    exact s2 b o (same_of_stays s1 h3 (un.keep b o e n hb (by simp)))
  · by_cases hb : b ∈ frs outer
    · obtain ⟨sl, z⟩ := slot b o e (frf b hb) hb
      exact ⟨_, z⟩
    · obtain ⟨o', h3⟩ := k1 b o e hb
      exact ⟨o', s2 b o' h3⟩
theorem raise_leaves {M : Model} {EE : Value → Shared → Prop} {E : XK} {e C t : Addr} {od : Option Addr} (hst : X.stack = X.env :: X.outer) (hf : X.env.frame = some X.env.locals) (hex : X.ex = []) (I : L2.Inv X pins σ H s)
    (hn : X.s₀.heap.get? e = none) (he : s.heap.get? e = some { cls := .ref C, dict := od, data := .fields #[.ref t, .none, .none, .none, .bool false, .none] }) (hu : H e = none) (q : E (.ref C) od H) :
    wpAny M X.A (leaving X.env (.ref e)) (fun _ s'' => CXe X.prog X.w X.outer X.H₀ X.s₀ E (.ref e) s'') EE s := by
  have noA : ∀ b : Addr, b ∉ X.ex := fun b z => by rw [hex] at z; cases z
  have st : (hideAll s.heap (e :: frs X.stack)).StaysIn s.heap := fun b o q => of_hideAll _ q
  have fr : s.heap.FunFrames (hideAll s.heap (e :: frs X.stack)) (X.env :: X.outer) := by
    have := I.stack
    rw [hst] at this
    exact funFrames_hide this fun env he a ha => List.mem_cons_of_mem _ (by rw [hst]; exact List.mem_filterMap.mpr ⟨env, he, ha⟩)
  have un0 : Un (frs X.outer) [] X.H₀ H X.s₀.heap s.heap := I.base.mono (fun _ z => z) fun b z => absurd z (noA b)
  have k1 : ∀ b o, X.s₀.heap.get? b = some o → b ∉ frs X.outer → ∃ o', (hideAll s.heap (e :: frs X.stack)).get? b = some o' := fun b o q hb => by
    obtain ⟨o', q'⟩ := I.base.there b o q (noA b)
    refine ⟨o', hideAll_get _ q' fun hm => ?_⟩
    rcases List.mem_cons.mp hm with z | z
    · rw [z, hn] at q; cases q
    · exact (mem_stack hst hf z).elim (Nat.ne_of_lt (Nat.lt_of_lt_of_le (Heap.lt_size q) I.ok.above)) hb
  have k2 : ∀ b u, H b = some u → ∃ o, (hideAll s.heap (e :: frs X.stack)).get? b = some o := fun b u q => by
    obtain ⟨o, ho⟩ := objAt (I.hok b u q)
    refine ⟨o, hideAll_get _ ho fun hm => ?_⟩
    rcases List.mem_cons.mp hm with z | z
    · rw [z, hu] at q; cases q
    · rw [I.stkFree b z] at q; cases q
  refine leave_first (base := hideAll s.heap (e :: frs X.stack)) (by rw [← hst]; exact I.ok.frames) fr hf he st (hideAll_none _ (List.mem_cons_self)) rfl rfl fun h' fl u => ?_
  refine ⟨e, .ref C, od, H, _, rfl, I.os, I.bare, un_leave un0 st fl.stays k1 I.ok.frf (fun b hb o ho => ?_) u, hok_stays I.hok k2 st fl.stays, fl, k1, k2, q⟩
  obtain ⟨_, o', ho', hnf⟩ := fr.mem (by have := mem_stack_of hst hb; rw [hst] at this; exact this)
  rw [ho] at ho'; cases ho'; exact hnf
end
def spInit (C : Addr) (f : Str) : Sp := fun vs H Q _ => ∃ e fv y, vs = [.ref e, y] ∧ H e = some (XV C none fv e) ∧ ∀ dx, H dx = none → dx ≠ e → Q .non (upd (upd H dx (.xd [(f, y)])) e (XV C (some dx) fv e))
def sRaiseF (C : Addr) (f : Str) (E : XK) (t : TA) : TS := fun _ σ H => t σ H fun vs H1 => ∃ y, vs = [y] ∧ ∀ dx, H1 dx = none → E (.ref C) (some dx) (upd H1 dx (.xd [(f, y)]))
section
variable {X : Cx} {k : Nat} {C D fI : Addr} {fd : FuncData} {ps : List Str} {E : XK} {x f : Str} {np pos cpos : Pos} {arg : Expr} {t : TA}
theorem ps_raiseF (c : XCl X.K C D) (hi : findIn X.K (.ref C) "__init__" = some (some (.ref fI))) (hfn : isFn X.K (.ref fI) = true)
    (F : FnOk X.prog X.w X.K X.mg X.base CX0 k fI fd ps (spInit C f)) (hr : Room (k + 1) X.A) (hb : L2.Binds X.K fd ps []) (hg : Gl X x) (hm : X.mg x = some (.ref C)) (ha : PA X [arg] t)
    (hst : X.stack = X.env :: X.outer) (hf : X.env.frame = some X.env.locals) (hex : X.ex = [])
    (hxe : ∀ e s', wpAny (model X.prog X.w) X.A (leaving X.env e) (fun _ s'' => CXe X.prog X.w X.outer X.H₀ X.s₀ E e s'') (fun e' s'' => CXe X.prog X.w X.outer X.H₀ X.s₀ E e' s'') s' → X.xe e s')
    (hdb : (x == ("__debug__" : Str)) = false := by decide) (he : starEach [arg] X.env = (false, eval arg X.env) :: starEach [] X.env := by rfl) :
    PS X (.Raise (some (.Call (.Name x np) [arg] [] cpos)) none pos) (sRaiseF C f E t) := by
  intro pins s σ H Dn I h
  refine exec_raise (C := C) (D := D) hr.hd (wpAny_Call_Name_kw (ld_glob I hg hm ?_ hdb))
  refine PySem.W.callWith_K (h₀ := X.base) I.ok.mod.kin c.kp (thn (ha cpos pins s σ H _ I h) fun us s1 ⟨vs, H1, I1, r, y, ev, q⟩ => ⟨I1.kIn, ?_⟩) he rfl
  subst ev
  have hus : us.length = 1 := r.length.symm
  have kin := I1.kIn
  have hn : X.s₀.heap.get? (s1.heap.objs.size + 1) = none := Heap.get?_none_of_le (Nat.le_succ_of_le I1.sz)
  have hfree : H1 (s1.heap.objs.size + 1) = none := I1.hok.fresh (Nat.le_succ _)
  have e1 : ((s1.heap.push (rawArgs us)).push (rawX C s1.heap.objs.size)).get? (s1.heap.objs.size + 1) = some (rawX C s1.heap.objs.size) := by
    have := Heap.get?_push_size (s1.heap.push (rawArgs us)) (o := rawX C s1.heap.objs.size) rfl
    rwa [Heap.size_push] at this
  have I0 := I1.kept (h' := s1.heap.push (rawArgs us)) (t' := s1.toks) fun b u q => Heap.get?_push_of_some _ q
  have I2 := I0.laid (a := s1.heap.objs.size + 1) (o := XV C none (rawF s1.heap.objs.size) (s1.heap.objs.size + 1)) (h' := (s1.heap.push (rawArgs us)).push (rawX C s1.heap.objs.size)) (t' := s1.toks)
    (fun b u q => Heap.get?_push_of_some _ q) (Nat.le_of_eq (Heap.size_push _ _)) (XV.ok e1)
  have r2 : Vals [V.ref (s1.heap.objs.size + 1), y] (Value.ref (s1.heap.objs.size + 1) :: us) := .cons rfl r
  have hsp : spInit C f [V.ref (s1.heap.objs.size + 1), y] (upd H1 (s1.heap.objs.size + 1) (XV C none (rawF s1.heap.objs.size) (s1.heap.objs.size + 1))) (fun v H' => v = .non ∧ ∃ dx, H1 dx = none ∧ dx ≠ s1.heap.objs.size + 1 ∧
      H' = upd (upd (upd H1 (s1.heap.objs.size + 1) (XV C none (rawF s1.heap.objs.size) (s1.heap.objs.size + 1))) dx (.xd [(f, y)])) (s1.heap.objs.size + 1) (XV C (some dx) (rawF s1.heap.objs.size) (s1.heap.objs.size + 1))) E0 :=
    ⟨_, _, y, rfl, upd_same, fun dx h1 h2 => ⟨rfl, dx, by rwa [upd_ne h2] at h1, h2, rfl⟩⟩
  have hl : ((Value.ref (s1.heap.objs.size + 1) :: us) ++ []).length = ps.length := by
    rw [List.append_nil, ← r2.length]; exact F.len _ _ _ _ hsp
  have bd := hb { s1 with heap := (s1.heap.push (rawArgs us)).push (rawX C s1.heap.objs.size) } (Value.ref (s1.heap.objs.size + 1) :: us) I2.kIn hl
  rw [List.append_nil] at bd
  refine call_exc_init (D := D) (clsAt_of kin c.cls) (looks_findIn kin hi) (fun self => bind_fn kin self (beq_iff_eq.mp hfn)) (wpAny_call (codeAny_mono (F.run _ X.stack _ _ ⟨Value.ref (s1.heap.objs.size + 1) :: us, []⟩ _ _ _ E0 (hr.make C us [])
    (I2.env0.make C us []) bd r2 hsp) fun rr s' hq => ?_)) (by rw [List.nil_append, hus, sizeLine_eq]; omega)
  cases rr with
  | error e => exact False.elim hq
  | ok fl =>
    cases fl with
    | ret u =>
      obtain ⟨v, H', I3, rv, ev, dx, g1, g2, g3⟩ := I2.after hq
      subst ev g3
      obtain rfl : u = Value.none := rv
      have he := XV.get (e := s1.heap.objs.size + 1) I3.hok upd_same
      have I4 := inv_untr (e := s1.heap.objs.size + 1) I3 upd_same
      refine ⟨rfl, s1.heap.objs.size + 1, s1.heap.objs.size, some dx, rfl, clsAt_of I3.kIn c.cls, he, hxe _ _ (raise_leaves hst hf hex I4 hn he untr_same ?_)⟩
      have e4 : untr (upd (upd (upd H1 (s1.heap.objs.size + 1) (XV C none (rawF s1.heap.objs.size) (s1.heap.objs.size + 1))) dx (.xd [(f, y)])) (s1.heap.objs.size + 1) (XV C (some dx) (rawF s1.heap.objs.size) (s1.heap.objs.size + 1))) (s1.heap.objs.size + 1)
          = upd H1 dx (.xd [(f, y)]) := by
        funext b
        by_cases z : b = s1.heap.objs.size + 1
        · rw [z, untr_same, upd_ne (Ne.symm g2), hfree]
        · rw [untr_ne z, upd_ne z]
          by_cases z2 : b = dx
          · rw [z2, upd_same, upd_same]
          · rw [upd_ne z2, upd_ne z2, upd_ne z]
      rw [e4]
      exact q dx g1
    | next => exact False.elim hq
    | brk => exact False.elim hq
    | cont => exact False.elim hq
end
end RX
set_option Elab.async false
set_option linter.all false
set_option maxRecDepth 100000
set_option maxHeartbeats 4000000
namespace L2
open PySem PySem.Spec PyProof.Rows
structure Mk0 (K : PySem.W.Frag) (C : Addr) : Prop where
  makes : PySem.W.makesIn K C = true
  init : PySem.W.findIn K (.ref C) "__init__" = some (some (.builtin "object.__init__"))
  kp : PySem.W.keepIn K (.ref C) = true
structure OwnC (K : PySem.W.Frag) (C : Addr) : Prop where
  cl : Cls K C
  ha : PySem.W.findIn K (.ref C) "__class__" = some (some (.builtin "object.__class__"))
  hn : PySem.W.specialIn K (.builtin "object.__class__") "__get__" = some (some (.builtin "getset_descriptor.__get__"))
  htk : PySem.W.takesIn K (.builtin "object.__class__") = some true
  hm : PySem.W.mroIn K C (.type "object") = some true
theorem OwnC.ty {K : PySem.W.Frag} {H : Hp} {a C dx : Addr} {fs : List (Str × V)} (o : OwnC K C) (e : H a = some (.ins C dx fs)) : TyOf K H (.ref a) (.ref C) := .ins e o.cl o.ha o.hn o.htk o.hm
section
variable {X : Cx}
theorem refs_of : ∀ {cs : List Addr} {us : List Value}, Vals (cs.map V.ref) us → us = cs.map Value.ref
  | [], _, .nil => rfl
  | c :: cs, _, .cons h t => by
    rw [refs_of t]
    cases (show _ = Value.ref c from h)
    rfl
structure MethOk (X : Cx) (m : Str) (C : Addr) (sp : Sp) : Prop where
  ex : ∃ f fd ps k, Cls X.K C ∧ Meth X.K C m f ∧ FnOk X.prog X.w X.K X.mg X.base CX0 k f fd ps sp ∧ Room k X.A ∧ Binds X.K fd ps []
end
end L2
set_option maxHeartbeats 4000000
set_option maxRecDepth 100000
namespace RX
open PySem PySem.Spec PyProof.Rows L2 PySem.W
open Builtin Builtin.ObjectAttr
structure XGet (K : Frag) (C : Addr) : Prop where
  ga : findIn K (.ref C) "__getattribute__" = some (some (.builtin "BaseException.__getattribute__"))
  gh : findIn K (.ref C) "__getattr__" = some none
  hd : hasDictIn K C = true
  be : mroIn K C (.type "BaseException") = some true
  ob : mroIn K C (.type "object") = some true
  cl : findIn K (.ref C) "__class__" = some (some (.builtin "object.__class__"))
  cg : specialIn K (.builtin "object.__class__") "__get__" = some (some (.builtin "getset_descriptor.__get__"))
  ct : takesIn K (.builtin "object.__class__") = some true
theorem bga_kind : builtinKind "BaseException.__getattribute__" = some .slot := by decide +kernel
theorem bga_split : splitId "BaseException.__getattribute__" = some ("BaseException", "__getattribute__") := by decide +kernel
section
variable {prog : Program} {w : World} {A : Around} {E : Value → Shared → Prop} {s : Shared} {K : Frag} {x C : Addr} {ox : Obj} {od : Option Obj} {name : Str} {tk : Tok} {fill expr : Bool} {Q : Value → Shared → Prop}
theorem getBy_x (X : K.In s.heap) (I : InstAt s.heap x ox C od) (g : XGet K C)
    (h : wpAny (model prog w) A.in1 (Builtin.«object.__getattribute__» ⟨[.ref x, .str name tk], []⟩) (fun fin s' => match fin with | .done (.ret v) => wpAny (model prog w) A (handedOut v) Q E s' | _ => False)
      (fun _ _ => False) s) : wpAny (model prog w) A (getAttrBy (.ref x) (.str name tk) fill expr) Q E s := by
  obtain ⟨hh, gg, d, t, os⟩ := s
  have L0 := I.type (M := model prog w)
  have L1 := looks_findIn (M := model prog w) X g.ga
  have L2 := looks_findIn (M := model prog w) X g.gh
  have L3 : Looks (model prog w) hh (isInstance (.ref x) (.type "BaseException")) true := L0.andThen (looks_mroIn X g.be)
  have f3 := PySem.F.excAttr_ValueError.ga.bind (.ref x)
  have hx0 : (expr && onTheHeap (Value.builtin "BaseException.__getattribute__")) = false := by cases expr <;> rfl
  have hx2 : (Value.builtin "BaseException.__getattribute__" == Value.builtin "object.__getattribute__") = false := by decide +kernel
  have hx1 : (onTheHeap (Value.ref C) && Value.builtin "BaseException.__getattribute__" == Value.builtin "object.__getattribute__") = false := by rw [hx2]; rfl
  unfold getAttrBy
  refine wpAny_holding (wpAny_bind (L0.here (s := ⟨hh, gg, d, t, os⟩) (wpAny_bind (L1.here (s := ⟨hh, gg, d, t, os⟩) ?_))))
  dsimp only
  rw [hx1]
  simp only [Bool.false_eq_true, if_false]
  unfold getAttrByItsOwn hookBefore
  rw [if_pos (show onTheHeap (Value.ref C) = true from rfl)]
  refine wpAny_bind (L2.here (s := ⟨hh, gg, d, t, os⟩) (wpAny_bind (wpAny_attempt (wpAny_holding ?_))))
  unfold callGetattribute
  rw [hx0]
  simp only [Bool.false_eq_true, if_false]
  unfold boundAndCalled
  rw [f3]
  refine wpAny_bind (wpAny_pure (wpAny_call ?_))
  refine codeAny_call_builtin PySem.F.excAttr_ValueError.ga.plain PySem.F.entry_bexc_ga ?_
  refine @check_slot (model prog w) _ _ ⟨hh, gg, d, t, os⟩ "BaseException.__getattribute__" "BaseException" "__getattribute__" (.ref x) [.str name tk] [] _ bga_kind bga_split L3 (PySem.F.args_bexc_ga _ _) ?_
  refine wpAny_mono h (fun fin s' z => ?_) fun _ _ z => False.elim z
  cases fin with
  | again c => exact z.elim
  | done f =>
    cases f with
    | ret v => exact z
    | next => exact z.elim
    | brk => exact z.elim
    | cont => exact z.elim
theorem get_x {o : Obj} {v : Value} (X : K.In s.heap) (I : InstAt s.heap x ox C (some o)) (g : XGet K C) (ha : findIn K (.ref C) name = some none) (hl : lookIn name o = some (some v)) (hh : handedIn v = true) (h : Q v { s with toks := s.toks + 1 }) :
    wpAny (model prog w) A (getAttr (.ref x) name expr) Q E s := by
  have hf : findObj K C (some o) name = some (.value v) := findObj_own g.hd ha rfl hl
  unfold getAttr
  refine wpAny_bind (wpAny_mkText ?_)
  obtain ⟨hp, gg, d, t, os⟩ := s
  have L0 := I.type (M := model prog w)
  have L1 := looks_find (M := model prog w) X I hf
  refine getBy_x (s := ⟨hp, gg, d, t + 1, os⟩) X I g ?_
  refine wpAny_bind (wpAny_pure (wpAny_bind (wpAny_pure (wpAny_bind (L0.here (s := ⟨hp, gg, d, t + 1, os⟩) (wpAny_bind (L1.here (s := ⟨hp, gg, d, t + 1, os⟩) ?_)))))))
  refine wpAny_pure ?_
  exact handed_on hh h
theorem findObj_dataX {od : Option Obj} {a g : Value} (hc : (clsIn K C).isSome = true) (ha : findIn K (.ref C) name = some (some a)) (hg : specialIn K a "__get__" = some (some g)) (ht : takesIn K a = some true) : findObj K C od name = some (.bind g a) := by
  obtain ⟨cd, hcd⟩ := Option.isSome_iff_exists.mp hc
  unfold findObj
  rw [hcd, Option.bind_some, ha, Option.bind_some]
  dsimp only
  rw [hg, Option.bind_some]
  dsimp only
  rw [ht, Option.bind_some]
theorem class_x {Q : Option Value → Shared → Prop} (X : K.In s.heap) (I : InstAt s.heap x ox C od) (g : XGet K C) (h : Q (some (.ref C)) { s with toks := s.toks + 1 }) : wpAny (model prog w) A (getAttr? (.ref x) "__class__") Q E s := by
  have hf : findObj K C od "__class__" = some (.bind (.builtin "getset_descriptor.__get__") (.builtin "object.__class__")) :=
    findObj_dataX (by obtain ⟨cd, hc, _⟩ := any_some g.hd; rw [hc]; rfl) g.cl g.cg g.ct
  unfold getAttr? getAttrBy?
  refine wpAny_bind (wpAny_mkText (wpAny_bind (wpAny_attempt ?_)))
  obtain ⟨hp, gg, d, t, os⟩ := s
  have L0 := I.type (M := model prog w)
  have L1 := looks_find (M := model prog w) X I hf
  refine getBy_x (s := ⟨hp, gg, d, t + 1, os⟩) X I g ?_
  refine wpAny_bind (wpAny_pure (wpAny_bind (wpAny_pure (wpAny_bind (L0.here (s := ⟨hp, gg, d, t + 1, os⟩) (wpAny_bind (L1.here (s := ⟨hp, gg, d, t + 1, os⟩) ?_)))))))
  show wpAny _ _ (bindTo (.builtin "getset_descriptor.__get__") (.builtin "object.__class__") (.ref x) (.ref C)) _ _ _
  unfold bindTo
  dsimp only
  refine wpAny_bind (wpAny_holding (wpAny_call (class_get (s := ⟨hp, gg, d, t + 1, os⟩) X I g.ob ?_)))
  refine wpAny_pure ?_
  exact handed_on rfl (wpAny_pure h)
theorem kitx_x (g : XGet K C) : KitX K (.ref x) (.ref C) (fun h => ∃ ox od, InstAt h x ox C od) where
  ty := fun _ _ _ ⟨_, _, I⟩ => I.type
  it := fun _ _ X _ => by
    obtain ⟨cdD, hcD, _⟩ := any_some g.hd
    unfold clsIn at hcD
    split at hcD
    · rename_i c' d' cd' sl' ho
      intro A' Q' E' s' k q
      unfold isType loadHead
      exact wpAny_bind (wpAny_loadPart (k _ _ (X _ _ ho)) (wpAny_pure q))
    · cases hcD
  ne := fun h tp dd its n sl X htp => by
    obtain ⟨cdD, hcD, _⟩ := any_some g.hd
    refine Bool.eq_false_iff.mpr fun q => ?_
    have e : C = tp := Value.ref.inj (beq_iff_eq.mp q)
    subst e
    unfold clsIn at hcD
    split at hcD
    · rename_i c' d' cd' sl' ho
      have z := (X _ _ ho).symm.trans htp
      cases z
    · cases hcD
  ca := fun X ⟨_, _, I⟩ k => class_x X I g k
end
def XO (C : Addr) (od : Option Addr) (e : Addr) : HO := .ext fun h => ∃ o fv, h.get? e = some o ∧ o.cls = .ref C ∧ o.dict = od ∧ o.data = .fields fv
theorem XO.ok {P : Program} {w : World} {H : Hp} {h : Heap} {C e : Addr} {od : Option Addr} {o : Obj} {fv : Array Value} (e1 : h.get? e = some o) (e2 : o.cls = .ref C) (e3 : o.dict = od) (e4 : o.data = .fields fv) : ObjOk P w H h e (XO C od e) :=
  ⟨⟨o, fv, e1, e2, e3, e4⟩, ⟨_, e1⟩, fun _ _ ⟨o, fv, p, r⟩ k => ⟨o, fv, k _ p, r⟩⟩
section
variable {P : Program} {w : World} {H : Hp} {h : Heap} {C e : Addr} {od : Option Addr}
theorem XO.get (x : HOk P w H h) (q : H e = some (XO C od e)) : ∃ o fv, h.get? e = some o ∧ o.cls = .ref C ∧ o.dict = od ∧ o.data = .fields fv := (x e _ q).1
theorem notCls_fields {o : Obj} {fv : Array Value} (h : o.data = .fields fv) : notCls o = true := by unfold notCls; rw [h]
theorem XO.inst (x : HOk P w H h) (q : H e = some (XO C od e)) (hd : ∀ dx, od = some dx → ∃ u, H dx = some u) : ∃ ox oo, InstAt h e ox C oo := by
  obtain ⟨o, fv, e1, e2, e3, e4⟩ := XO.get x q
  cases od with
  | none => exact ⟨o, none, e1, e2, notCls_fields e4, by rw [e3]; trivial⟩
  | some dx =>
    obtain ⟨u, hu⟩ := hd dx rfl
    obtain ⟨o', ho'⟩ := objAt (x dx u hu)
    exact ⟨o, some o', e1, e2, notCls_fields e4, by rw [e3]; exact ho'⟩
end
section
variable {X : Cx} {f : Str} {e : Expr} {ta : TE} {pos : Pos}
def tFldX (K : Frag) (ta : TE) (f : Str) : TE := fun σ H Q => ta σ H fun x H1 => ∃ a C dx fs v, x = .ref a ∧ H1 a = some (XO C (some dx) a) ∧ H1 dx = some (.xd fs) ∧ XGet K C ∧ findIn K (.ref C) f = some none ∧ fs.lookup f = some v ∧ (∀ n, v ≠ .ty n) ∧ Q v H1
theorem pe_fldX (he : PE X e ta) (hb : attributeBase e f X.env (eval e X.env) = eval e X.env) : PE X (.Attribute e f pos) (tFldX X.K ta f) := by
  intro pins s σ H Q I h
  refine attr_of hb (thn (he pins s σ H _ I h) fun u s1 ⟨x, H1, I1, rx, a, C, dx, fs, v, ex, ea, ed, g, n, l, nt, q⟩ => ?_)
  subst ex
  obtain rfl : u = Value.ref a := rx
  obtain ⟨o, fv, e1, e2, e3, e4⟩ := XO.get I1.hok ea
  obtain ⟨mA, hns, r⟩ := (show ObjOk X.prog X.w H1 s1.heap dx (.xd fs) from I1.hok dx _ ed)
  obtain ⟨u', hu, ru⟩ := RelO.some_of (v := v) (o := mA f) (by rw [← l]; exact r f)
  obtain ⟨od, ho, hl⟩ := lookIn_ns hns
  exact get_x I1.kIn ⟨e1, e2, notCls_fields e4, by rw [e3]; exact ho⟩ g n (by rw [hl, hu]) (handed_of ru) ⟨v, H1, I1.tok _, ru, q⟩
def clV : V → Option Value
  | .ref a => some (.ref a)
  | .ty n => some (.type n)
  | _ => none
theorem clV_rel {y : V} {c u : Value} (e : clV y = some c) (r : L2.RelV y u) : u = c := by
  cases y <;> cases e <;> exact r
def rIsX (K : Frag) : List V → Hp → VK → Prop := fun xs H Q => ∃ a C od y c b, xs = [.ref a, y] ∧ H a = some (XO C od a) ∧ (∀ dx, od = some dx → ∃ u, H dx = some u) ∧ XGet K C ∧ clV y = some c ∧ kitOne K (.ref C) c = some b ∧ Q (.bl b) H
theorem call_isinstX : CallR X (.builtin "isinstance") (rIsX X.K) := by
  intro pins s σ H xs us Q I r h
  obtain ⟨a, C, od, y, c, b, rfl, ea, hd, g, ec, e, q⟩ := h
  obtain ⟨u, w', rfl, rx, ry⟩ := vals2 r
  cases (show u = Value.ref a from rx)
  cases clV_rel ec ry
  exact kia_one (kitx_x g) I.kIn (XO.inst I.hok ea hd) e (fun z => nomatch z) fun tk => ⟨.bl b, H, I.tok tk, rfl, q⟩
def rIsXT (K : Frag) : List V → Hp → VK → Prop := fun xs H Q => ∃ a C od tp, ∃ (cs : List Addr) (b : Bool), xs = [.ref a, .ref tp] ∧ H a = some (XO C od a) ∧ (∀ dx, od = some dx → ∃ u, H dx = some u) ∧ XGet K C ∧ H tp = some (.tup (cs.map V.ref)) ∧
  kitAny K (.ref C) (cs.map Value.ref) = some b ∧ Q (.bl b) H
theorem call_isinstXT : CallR X (.builtin "isinstance") (rIsXT X.K) := by
  intro pins s σ H xs us Q I r h
  obtain ⟨a, C, od, tp, cs, b, rfl, ea, hd, g, et, e, q⟩ := h
  obtain ⟨u, w', rfl, rx, ry⟩ := vals2 r
  cases (show u = Value.ref a from rx)
  cases (show w' = Value.ref tp from ry)
  obtain ⟨_, its, rv, o, h1, h2, n, h3⟩ := (show ObjOk X.prog X.w H s.heap tp (.tup (cs.map V.ref)) from I.hok tp _ et)
  obtain ⟨oc, od', odt, osl⟩ := o
  dsimp only at h2 h3
  subst h2 h3
  rw [refs_of rv] at h1
  exact kia_tup (kitx_x g) I.kIn (XO.inst I.hok ea hd) h1 e (fun z => nomatch z) fun tk => ⟨.bl b, H, I.tok tk, rfl, q⟩
end
end RX
set_option maxHeartbeats 4000000
set_option maxRecDepth 100000
namespace RX
open PySem PySem.Spec PyProof.Rows L2 PySem.W
section
variable {X : Cx} {pins : List (Addr × Obj)} {σ : L2.St} {H0 H' : Hp} {s0 s' : Shared} {e C : Addr} {cls fl fl' : Value} {od : Option Addr} {B h' : Heap}
structure Ly (X : Cx) (H0 : Hp) (s0 : Shared) (e : Addr) (cls : Value) (od : Option Addr) (H' : Hp) (B : Heap) (fl : Value) (s' : Shared) : Prop where
  os : s'.os = s0.os
  bare : AllBare s'.gens
  un : Un (frs X.stack) [] H0 H' s0.heap s'.heap
  hok : HOk X.prog X.w H' s'.heap
  fly : Fl B X.stack e cls od fl s'.heap
  k1 : ∀ b o, s0.heap.get? b = some o → b ∉ frs X.stack → ∃ o', B.get? b = some o'
  k2 : ∀ b u, H' b = some u → ∃ o, B.get? b = some o
theorem Ly.to (x : Ly X H0 s0 e cls od H' B fl s') (I : L2.Inv X pins σ H0 s0) (f : Fl B X.stack e cls od fl' h') (u : s'.heap.UpToSlots h') : Ly X H0 s0 e cls od H' B fl' { s' with heap := h' } := by
  refine ⟨x.os, x.bare, un_leave x.un x.fly.stays f.stays x.k1 I.stkFree (fun b hb o ho => ?_) u, hok_stays x.hok x.k2 x.fly.stays f.stays, f, x.k1, x.k2⟩
  obtain ⟨_, o', ho', hnf⟩ := x.fly.frames.mem hb
  rw [ho] at ho'; cases ho'; exact hnf
theorem Ly.free (x : Ly X H0 s0 e cls od H' B fl s') : H' e = none := by
  cases q : H' e with
  | none => rfl
  | some u =>
    obtain ⟨o, ho⟩ := x.k2 e u q
    rw [x.fly.new] at ho; cases ho
theorem Ly.fresh (x : Ly X H0 s0 e cls od H' B fl s') : s0.heap.get? e = none := by
  cases q : s0.heap.get? e with
  | none => rfl
  | some o =>
    by_cases hb : e ∈ frs X.stack
    · obtain ⟨_, o', ho', hnf⟩ := x.fly.frames.mem hb
      obtain ⟨oe, vs, _, _, _, he, _, hd, _⟩ := x.fly.trace
      rw [he] at ho'; cases ho'
      exact absurd hd (hnf vs)
    · obtain ⟨o', h⟩ := x.k1 e o q hb
      rw [x.fly.new] at h; cases h
theorem Ly.inv (x : Ly X H0 s0 e cls od H' B fl s') (I : L2.Inv X pins σ H0 s0) : L2.Inv X pins σ H' s' :=
  I.call' (ch := []) x.os x.un x.hok x.bare fun b z => absurd z (by simp)
theorem Ly.track (x : Ly X H0 s0 e (.ref C) od H' B fl s') (I : L2.Inv X pins σ H0 s0) : L2.Inv X pins σ (upd H' e (XO C od e)) s' := by
  have nf := x.free
  have ne : ∀ b v, H' b = some v → b ≠ e := fun b v q z => by rw [z, nf] at q; cases q
  refine I.call' (ch := []) x.os ⟨x.un.keep, x.un.slot, fun b o q n hx => ?_, x.un.there, fun b xs q => ?_, fun b o xs q => ?_, fun b ps q => ?_⟩ (fun b u q => ?_) x.bare fun b z => absurd z (by simp)
  · rw [upd_ne (fun z => by rw [z, x.fresh] at q; cases q)]
    exact x.un.free b o q n hx
  · have r := x.un.tups b xs q
    rw [upd_ne (ne b _ r)]; exact r
  · have r := x.un.frzs b o xs q
    rw [upd_ne (ne b _ r)]; exact r
  · obtain ⟨m, r⟩ := x.un.tbls b ps q
    exact ⟨m, by rw [upd_ne (ne b _ r)]; exact r⟩
  · by_cases z : b = e
    · subst z
      rw [upd_same] at q; cases q
      obtain ⟨oe, vs, _, _, _, he, ⟨hc, hd⟩, hf, _⟩ := x.fly.trace
      exact XO.ok he hc hd hf
    · rw [upd_ne z] at q
      refine (x.hok b u q).stay (fun _ _ _ r => r) (fun c r => ?_) fun c xs r => ?_
      · rw [upd_ne (ne c _ r)]; exact r
      · rw [upd_ne (ne c _ r)]; exact r
end
abbrev mrk (X : Cx) (e : Addr) : Cx := { X with A := X.A.mark (some (.ref e)), calm := false, xe := fun _ _ => False }
section
variable {X : Cx} {pins : List (Addr × Obj)} {σ : L2.St} {H : Hp} {s : Shared} {e : Addr}
theorem inv_mrk (I : L2.Inv X pins σ H s) (e : Addr) : L2.Inv (mrk X e) pins σ H s :=
  have ok := I.ok
  ⟨⟨ok.mod, ok.kind, ok.glob, ok.blt, ok.above, ok.inj, ok.has, ok.cab, (fun z => Bool.noConfusion z), ok.frames, ok.stk, ok.exf, ok.bs, ok.bsz, ok.noex, ok.exfs, ok.funs, ok.frf⟩, I.os, I.bare, I.base, I.loc, I.cell, I.free, I.freeC, I.pin, I.hok, I.len⟩
theorem inv_unmrk (ok : X.Ok) (I : L2.Inv (mrk X e) pins σ H s) : L2.Inv X pins σ H s :=
  ⟨ok, I.os, I.bare, I.base, I.loc, I.cell, I.free, I.freeC, I.pin, I.hok, I.len⟩
theorem inv_pn {pn : List (Addr × Obj)} {E : Value → Shared → Prop} (I : L2.Inv X pins σ H s) (h : ∀ p ∈ pn, p ∈ X.pn ++ pins) : L2.Inv { X with pn := pn, xe := E } [] σ H s :=
  have ok := I.ok
  ⟨⟨ok.mod, ok.kind, ok.glob, ok.blt, ok.above, ok.inj, ok.has, ok.cab, ok.hd, ok.frames, ok.stk, ok.exf, ok.bs, ok.bsz, ok.noex, ok.exfs, ok.funs, ok.frf⟩, I.os, I.bare, I.base, I.loc, I.cell, I.free, I.freeC, fun p hp => I.pin p (h p (by simpa using hp)), I.hok, I.len⟩
theorem inv_unpn {pn pins' : List (Addr × Obj)} {E : Value → Shared → Prop} (ok : X.Ok) (I : L2.Inv { X with pn := pn, xe := E } pins' σ H s) (h : ∀ p ∈ X.pn ++ pins, p ∈ pn) : L2.Inv X pins σ H s :=
  ⟨ok, I.os, I.bare, I.base, I.loc, I.cell, I.free, I.freeC, fun p hp => I.pin p (List.mem_append_left _ (h p hp)), I.hok, I.len⟩
theorem goes_ok {M : Model} {A : Around} {E : Value → Shared → Prop} {i : Nat} {n : Str} {pos : Pos} {Q : Unit → Shared → Prop} (I : L2.Inv X pins σ H s) (hN : X.N.Nodup) (hi : X.N[i]? = some n) (hk : X.env.scope.names.lookup n = some .local)
    (h : ∀ s', L2.Inv X pins (σ.set i none) H s' → Q () s') : wpAny M A (do bindName X.env n .none; unbindBehindTheSuite X.env n pos) Q E s := by
  obtain ⟨m, hn, hl⟩ := id I.loc
  have hcls : (X.env.scope.kind == .class || (X.env.scope.kind == .module && X.env.locals != X.env.globals)) = false := by rw [I.ok.kind]; rfl
  have hiσ : i < σ.length := by rw [I.len]; exact (List.getElem?_eq_some_iff.mp hi).1
  obtain ⟨oL, _, _, hoL, _⟩ := id hn
  refine wpAny_nameGoes_keeps hk hn hcls fun h' v hn' hs => ?_
  have tracked : HOk X.prog X.w H h' := fun b ob e => by
    refine (I.hok b ob e).stay (fun c w' hc q => (hs.2 c ?_).trans q) (fun _ q => q) fun _ _ q => q
    rintro rfl
    rcases hc with hc | hc
    · rw [← hc, I.free] at e; cases e
    · rw [I.free] at hc; cases hc
  have low : ∀ b o, X.s₀.heap.get? b = some o → b ≠ X.env.locals := fun b o e => Nat.ne_of_lt (Nat.lt_of_lt_of_le (Heap.lt_size e) I.ok.above)
  refine h _ ⟨I.ok, I.os, I.bare, ⟨fun b o e n hb hx => ?_, fun b o e n hb hx => ?_, I.base.free, fun b o e hx => ?_, I.base.tups, I.base.frzs, I.base.tbls⟩, ⟨_, hn', fun j y v' e1 e2 e3 => ?_⟩, fun y c e => ?_, I.free, I.freeC, fun p hp => ?_, tracked, by simpa using I.len⟩
  · exact (hs.2 b (low b o e)).trans (I.base.keep b o e n hb hx)
  · obtain ⟨sl, e1⟩ := I.base.slot b o e n hb hx
    exact ⟨sl, (hs.2 b (low b o e)).trans e1⟩
  · obtain ⟨o', e1⟩ := I.base.there b o e hx
    exact ⟨o', (hs.2 b (low b o e)).trans e1⟩
  · by_cases hj : j = i
    · subst hj
      rw [List.getElem?_set_self hiσ] at e2
      cases e2
    · rw [List.getElem?_set_ne (Ne.symm hj)] at e2
      obtain ⟨u', r', q⟩ := hl j y v' e1 e2 e3
      refine ⟨u', r', ?_⟩
      rcases q with ⟨k, e⟩ | ⟨k, c, e, z⟩
      · refine .inl ⟨k, ?_⟩
        have : y ≠ n := fun e => hj (nodup_ix hN e1 (e ▸ hi))
        simp [this, e]
      · exact .inr ⟨k, c, e, z.sameBut hs (I.cne y c e)⟩
  · obtain ⟨w', z⟩ := I.cell y c e
    exact ⟨w', z.sameBut hs (I.cne y c e)⟩
  · obtain ⟨e, n, ne, nf, d⟩ := I.pin p hp
    exact ⟨(hs.2 p.1 ne).trans e, n, ne, nf, d⟩
end
theorem match_own {M : Model} {A : Around} {E : Value → Shared → Prop} {s : Shared} {K : Frag} {e C C' : Addr} {oe : Obj} {b : Bool} {Q : Bool → Shared → Prop} (X : K.In s.heap) (he : s.heap.get? e = some oe) (hc : oe.cls = .ref C)
    (k : kitCls K (.ref C) (.ref C') = some b) (hb : mroIn K C' (.type "BaseException") = some true) (q : Q b s) : wpAny M A (excMatches (.ref e) (.ref C')) Q E s := by
  obtain ⟨hty, his, hsub⟩ := kit_cls (M := M) X k
  obtain ⟨hh, g, d, t, os⟩ := s
  have L1 : Looks M hh (isInstance (.ref C') (.type "tuple")) false := hty.andThen (Looks.of_pure tc_notTuple)
  have L2 : Looks M hh (isExcClass (.ref C')) true := by
    unfold isExcClass
    refine his.andThen ?_
    rw [if_pos rfl]
    exact looks_mroIn X hb
  have L3 : Looks M hh (typeOf (.ref e)) (.ref C) := hc ▸ (Looks.ld he).andThen .now
  unfold excMatches
  refine wpAny_bind (L1.here (s := ⟨hh, g, d, t, os⟩) ?_)
  simp only [Bool.false_eq_true, if_false]
  refine wpAny_bind (wpAny_pure (wpAny_bind ?_))
  rw [List.forIn_cons]
  refine wpAny_bind (wpAny_bind (L2.here (s := ⟨hh, g, d, t, os⟩) ?_))
  simp only [Bool.not_true, Bool.false_eq_true, if_false]
  refine wpAny_pure ?_
  dsimp only
  rw [List.forIn_nil]
  refine wpAny_pure (wpAny_bind (L3.here (s := ⟨hh, g, d, t, os⟩) (wpAny_bind ?_)))
  rw [List.forIn_cons]
  refine wpAny_bind (wpAny_bind (hsub.here (s := ⟨hh, g, d, t, os⟩) ?_))
  cases b with
  | true => exact wpAny_pure (wpAny_pure (wpAny_pure q))
  | false =>
    simp only [Bool.false_eq_true, if_false]
    refine wpAny_pure ?_
    dsimp only
    rw [List.forIn_nil]
    exact wpAny_pure (wpAny_pure q)
end RX
set_option maxHeartbeats 4000000
set_option maxRecDepth 100000
namespace RX
open PySem PySem.Spec PyProof.Rows L2 PySem.W
abbrev TH := L2.St → Value → Option Addr → Hp → Ends → Prop
def PH (X : Cx) (hs : List ExceptHandler) (th : TH) : Prop := ∀ (pins : List (Addr × Obj)) (σ : L2.St) (H0 : Hp) (s0 : Shared) (e : Addr) (cls : Value) (od : Option Addr) (H' : Hp) (B : Heap) (s' : Shared) (D : Ends),
  L2.Inv X pins σ H0 s0 → Ly X H0 s0 e cls od H' B .none s' → th σ cls od H' D → wpAny (model X.prog X.w) X.A (handleBy (.ref e) X.env hs) (SP X pins D) X.xe s'
abbrev tryX (X : Cx) (pn : List (Addr × Obj)) (E : Value → Shared → Prop) : Cx := { X with pn := pn, xe := E }
def Takes (X : Cx) (Ex : L2.St → XK) : Prop := ∀ (pins : List (Addr × Obj)) (σ : L2.St) (H : Hp) (s : Shared) (e : Value) (s' : Shared), L2.Inv X pins σ H s → CXe X.prog X.w X.stack H s (Ex σ) e s' → X.xe e s'
def sTry (tb : (L2.St → XK) → TS) (th : TH) : TS := fun D σ H => tb (fun σ' cls od H' => th σ' cls od H' D) D σ H
section
variable {X : Cx} {body suite : List Stmt} {h₀ : ExceptHandler} {hs rest : List ExceptHandler} {tb : (L2.St → XK) → TS} {th : TH} {pos hpos cp : Pos}
theorem ps_try (hst : X.stack = X.env :: X.outer) (hf : X.env.frame = some X.env.locals) (hb : ∀ pn E Ex, Takes (tryX X pn E) Ex → PSs (tryX X pn E) body (tb Ex)) (hh : PH X (h₀ :: hs) th) : PS X (.Try body (h₀ :: hs) [] [] pos) (sTry tb th) := by
  intro pins s σ H D I h
  refine wpAny_Try_except ?_
  refine wpAny_mono (hb (X.pn ++ pins) (fun ev s₁ => wpAny (model X.prog X.w) X.A (noteFrame ev X.env) (fun _ s₂ => wpAny (model X.prog X.w) X.A (setFlight ev none) (fun _ s₃ => wpAny (model X.prog X.w) X.A (handleBy ev X.env (h₀ :: hs)) (SP X pins D) X.xe s₃) X.xe s₂) X.xe s₁)
    (fun σ' cls od H' => th σ' cls od H' D) (fun pins' σ' H1 s1 ev s' I1 x => ?_) [] s σ H D (inv_pn I fun p hp => hp) h) (fun f s1 q => ?_) fun _ _ q => q
  · have I2 : L2.Inv X pins σ' H1 s1 := inv_unpn I.ok I1 fun p hp => hp
    obtain ⟨e, cls, od, H', B, rfl, os, bare, un, hok, fl, k1, k2, q⟩ := x
    have y : Ly X H1 s1 e cls od H' B .none s' := ⟨os, bare, un, hok, fl, k1, k2⟩
    have fl' : Fl B (X.env :: X.outer) e cls od .none s'.heap := by rw [← hst]; exact fl
    show wpAny (model X.prog X.w) X.A (noteFrame (.ref e) X.env) _ _ s'
    refine note_on (by rw [← hst]; exact I.ok.frames) hf fl' fun h1 f1 u1 => ?_
    rw [← hst] at f1
    have y1 := y.to I2 f1 u1
    refine flight_off (s := { s' with heap := h1 }) f1 fun h2 f2 u2 => ?_
    exact hh pins σ' H1 s1 e cls od H' B _ D I2 (y1.to I2 f2 u2) q
  · have up : ∀ {σ' : L2.St} {H' : Hp} {EE : Value → Shared → Prop}, L2.Inv (tryX X (X.pn ++ pins) EE) [] σ' H' s1 → L2.Inv X pins σ' H' s1 := fun J => inv_unpn I.ok J fun p hp => hp
    cases f with
    | next => obtain ⟨σ', H', J, r⟩ := q; exact wpAny_pure ⟨σ', H', up J, r⟩
    | brk => obtain ⟨σ', H', J, r⟩ := q; exact ⟨σ', H', up J, r⟩
    | cont => obtain ⟨σ', H', J, r⟩ := q; exact ⟨σ', H', up J, r⟩
    | ret u => obtain ⟨v, σ', H', J, rv, r⟩ := q; exact ⟨v, σ', H', up J, rv, r⟩
theorem ph_nil : PH X [] (fun _ _ _ _ _ => False) := fun _ _ _ _ _ _ _ _ _ _ _ _ _ h => h.elim
def unE (i : Nat) (D : Ends) : Ends := { nx := fun σ H => D.nx (σ.set i none) H, rt := D.rt, bk := fun σ H => D.bk (σ.set i none) H, ct := fun σ H => D.ct (σ.set i none) H }
def thAs (K : Frag) (C' : Addr) (i : Nat) (ts : TS) (th : TH) : TH := fun σ cls od H D => ∃ C b, cls = .ref C ∧ kitCls K (.ref C) (.ref C') = some b ∧
  if b = true then ∀ e, H e = none → ts (unE i D) (σ.set i (some (.ref e))) (upd H e (XO C od e)) else th σ cls od H D
theorem ph_as {c n : Str} {C' : Addr} {i : Nat} {b₀ : Stmt} {ts : TS} (hg : Gl X c) (hm : X.mg c = some (.ref C')) (hbe : mroIn X.K C' (.type "BaseException") = some true) (hN : X.N.Nodup) (hi : X.N[i]? = some n)
    (hk : X.env.scope.names.lookup n = some .local) (hs : ∀ e, PSs (mrk X e) (b₀ :: suite) ts) (hr : PH X rest th) (hdb : (c == ("__debug__" : Str)) = false := by decide) :
    PH X (.ExceptHandler (some (.Name c cp)) (some n) (b₀ :: suite) hpos :: rest) (thAs X.K C' i ts th) := by
  intro pins σ H0 s0 e cls od H' B s' D I y h
  obtain ⟨C, b, rfl, hkit, h⟩ := h
  have J := y.inv I
  have Jm := inv_mrk J e
  obtain ⟨oe, vs, _, _, _, he, ⟨hc, _⟩, _⟩ := y.fly.trace
  refine wpAny_handleBy_cons (codeAny_handlers_test (ld_glob (X := mrk X e) Jm hg hm ?_ hdb)) (by intro q; cases q)
  refine match_own J.kIn he hc hkit hbe ?_
  cases b with
  | false =>
    rw [if_neg (by decide)] at h
    exact hr pins σ H0 s0 e _ od H' B s' D I y h
  | true =>
    rw [if_pos rfl] at h
    refine codeAny_handlers_suite_as ?_
    refine flight_off y.fly fun h2 f2 u2 => ?_
    have y2 := y.to I f2 u2
    have J2 := inv_mrk (y2.track I) e
    refine store_ok (X := mrk X e) J2 hN hi (.inl hk) (v := .ref e) rfl (fun s3 J3 => ?_) (.inr hk)
    refine wpAny_mono (hs e pins s3 _ _ (unE i D) J3 (h e y.free)) (fun f s4 q => ?_) fun _ _ z => False.elim z
    have ok := I.ok
    cases f with
    | next => obtain ⟨σ', H4, J4, r⟩ := q; exact goes_ok (inv_unmrk ok J4) hN hi hk fun s5 J5 => ⟨_, _, J5, r⟩
    | brk => obtain ⟨σ', H4, J4, r⟩ := q; exact goes_ok (inv_unmrk ok J4) hN hi hk fun s5 J5 => ⟨_, _, J5, r⟩
    | cont => obtain ⟨σ', H4, J4, r⟩ := q; exact goes_ok (inv_unmrk ok J4) hN hi hk fun s5 J5 => ⟨_, _, J5, r⟩
    | ret u => obtain ⟨v, σ', H4, J4, rv, r⟩ := q; exact goes_ok (inv_unmrk ok J4) hN hi hk fun s5 J5 => ⟨v, _, _, J5, rv, r⟩
end
def tCallX (sp : Sp) (dvs : List V) (Ex : L2.St → XK) (t : TA) : TE := fun σ H Q => t σ H fun vs H1 => sp (vs ++ dvs) H1 Q (Ex σ)
section
variable {X : Cx} {k : Nat} {f : Addr} {fd : FuncData} {ps : List Str} {sp : Sp} {dvs : List V} {ds : List Value} {Ex : L2.St → XK} {x : Str} {p pos : Pos} {e : Expr} {es : List Expr} {t : TA}
theorem pe_callX (F : FnOk X.prog X.w X.K X.mg X.base (CXe X.prog X.w) k f fd ps sp) (hr : Room k X.A) (hg : Gl X x) (hm : X.mg x = some (.ref f)) (hk : PySem.W.keepIn X.K (.ref f) = true) (hb : L2.Binds X.K fd ps ds) (hd : Vals dvs ds) (hx : Takes X Ex)
    (ha : PA X (e :: es) t) (hdb : (x == ("__debug__" : Str)) = false := by decide) (he : starEach (e :: es) X.env = (false, eval e X.env) :: starEach es X.env := by rfl) (hpl : (backTo pos (starEach es X.env)).any (·.1) = false := by rfl) :
    PE X (.Call (.Name x p) (e :: es) [] pos) (tCallX sp dvs Ex t) := by
  intro pins s σ H Q I h
  refine wpAny_Call_Name_kw (ld_glob I hg hm ?_ hdb)
  refine PySem.W.callWith_K (h₀ := X.base) I.ok.mod.kin hk (thn (ha pos pins s σ H _ I h) fun us s1 ⟨vs, H1, I1, r, q⟩ => ⟨I1.kIn, ?_⟩) he hpl
  have r2 : Vals (vs ++ dvs) (us ++ ds) := r.append hd
  have hl : (us ++ ds).length = ps.length := by rw [← r2.length]; exact F.len _ _ _ _ q
  refine wpAny_call (codeAny_mono (F.run X.A X.stack s1 H1 ⟨us, []⟩ (us ++ ds) (vs ++ dvs) Q (Ex σ) hr I1.env0 (hb s1 us I1.kIn hl) r2 q) fun r s' hq => ?_)
  cases r with
  | error e => exact hx pins σ H1 s1 e s' I1 hq
  | ok fl =>
    cases fl with
    | ret u => exact I1.after hq
    | next => exact False.elim hq
    | brk => exact False.elim hq
    | cont => exact False.elim hq
end
end RX
set_option maxHeartbeats 4000000
set_option maxRecDepth 100000
namespace RX
open PySem PySem.Spec PyProof.Rows L2 PySem.W
structure RoomM (k : Nat) (A : Around) : Prop where
  dp : A.depth + 3 * k + 5 < recursionLimit
  un : A.units + 16 * k + 200 < cLine
theorem RoomM.of {k : Nat} {A : Around} (r : Room k A) (h : Option Value) : RoomM k (A.mark h) := ⟨r.dp, r.un⟩
theorem RoomM.deeper {k : Nat} {A : Around} (r : RoomM (k + 1) A) (env : Env) : RoomM k (A.deeper env) :=
  ⟨by have := r.dp; show A.depth + 1 + 3 * k + 5 < _; omega, by have := r.un; show A.units + 3 + 16 * k + 200 < _; omega⟩
theorem RoomM.units {k : Nat} {A : Around} (r : RoomM k A) : A.units + 64 < cLine := by have := r.un; omega
structure FnM (P : Program) (w : World) (K : Frag) (mg : Str → Option Value) (base : Heap) (k : Nat) (f : Addr) (fd : FuncData) (ps : List Str) (sp : Sp) : Prop where
  len : ∀ vs H Q E, sp vs H Q E → vs.length = ps.length
  run : ∀ (A : Around) (outer : List Env) (s : Shared) (H : Hp) (args : Args) (us : List Value) (vs : List V) (Q : VK), RoomM k A → Env0 P w K mg base A outer s H → BindsTo s fd args (ps.zip us) → Vals vs us → sp vs H Q E0 →
    codeAny (model P w) A (.call (.ref f) args) (CR CX0 outer P w H s Q E0) s
end RX
set_option Elab.async false
set_option linter.all false
set_option maxRecDepth 100000
set_option maxHeartbeats 4000000
namespace My
open PySem L2
def cnt (tl : List (Option Nat)) (t : Nat) : Nat := tl.count (some t)
end My
set_option Elab.async false
set_option linter.all false
set_option maxRecDepth 100000
set_option maxHeartbeats 4000000
namespace My
def InP (tl : List (Option Nat)) (u v k : Nat) : Prop := tl[k]? = some (some u) ∨ tl[k]? = some (some v)
inductive RP (es : List (Nat × Nat)) (tl : List (Option Nat)) (u v p : Nat) : Nat → Prop
  | start : RP es tl u v p p
  | step {x y k : Nat} : RP es tl u v p x → k < es.length → InP tl u v k → At (es.getD k (0, 0)) x → At (es.getD k (0, 0)) y → RP es tl u v p y
def RT (es : List (Nat × Nat)) (tl : List (Option Nat)) (u v p k : Nat) : Prop := k < es.length ∧ InP tl u v k ∧ ∃ x, RP es tl u v p x ∧ At (es.getD k (0, 0)) x
structure Walk (es : List (Nat × Nat)) (tl : List (Option Nat)) (u v p : Nat) (F : Nat → Prop) (V W : Nat → Prop) : Prop where
  rt : ∀ k, F k → RT es tl u v p k
  rw : ∀ x, W x → RP es tl u v p x
  cl : ∀ x, V x → ∀ k, k < es.length → InP tl u v k → At (es.getD k (0, 0)) x → F k
  en : ∀ k, F k → ∀ x, At (es.getD k (0, 0)) x → V x ∨ W x
  st : V p ∨ W p
theorem Walk.done {es : List (Nat × Nat)} {tl : List (Option Nat)} {u v p : Nat} {F V W : Nat → Prop} (h : Walk es tl u v p F V W) (hW : ∀ x, ¬ W x) : ∀ k, F k ↔ RT es tl u v p k := by
  have hV : ∀ x, RP es tl u v p x → V x := fun x hx => by
    induction hx with
    | start => exact h.st.resolve_right (hW _)
    | step _ h1 h2 h3 h4 ih => exact (h.en _ (h.cl _ ih _ h1 h2 h3) _ h4).resolve_right (hW _)
  exact fun k => ⟨h.rt k, fun ⟨a, b, x, c, d⟩ => h.cl x (hV x c) k a b d⟩
end My
set_option linter.all false
namespace My
def draw (ns : List Int) (k : Int) : Int :=
  let cell : Int := if ns.length > 0 then ns.getD (k % (ns.length : Int)).toNat 0 % 2147483629 + k / (ns.length : Int) * 7349 + 1 else 2 * k + 1
  let c2 := (cell * 48271 + k * k * 16807 + 3) % 2147483647
  c2 * c2 % 2147483629
theorem draw_nn (ns : List Int) (k : Int) : 0 ≤ draw ns k := Int.emod_nonneg _ (by decide)
theorem step_ne {a d p : Int} (h0 : 0 ≤ a) (h1 : a < p) (h2 : 1 ≤ d) (h3 : d < p) : (a + d) % p ≠ a := by
  by_cases h : a + d < p
  · rw [Int.emod_eq_of_lt (by omega) h]; omega
  · have e : (a + d) % p = a + d - p := by
      have e1 : (a + d - p) % p = (a + d) % p := by rw [Int.sub_emod_right]
      rw [← e1]
      exact Int.emod_eq_of_lt (by omega) (by omega)
    rw [e]; omega
theorem next_ne {n p : Int} (h : 2 ≤ p) : (n + 1) % p ≠ n % p := by
  have h1 := step_ne (a := n % p) (d := 1) (p := p) (Int.emod_nonneg _ (by omega)) (Int.emod_lt_of_pos _ (by omega)) (by omega) (by omega)
  rw [Int.emod_add_emod] at h1
  exact h1
theorem mod_lo {n p : Int} (h : 0 < p) : 0 ≤ n % p := Int.emod_nonneg _ (by omega)
theorem mod_hi {n p : Int} (h : 0 < p) : n % p < p := Int.emod_lt_of_pos _ h
end My
set_option Elab.async false
set_option linter.all false
set_option maxRecDepth 100000
set_option maxHeartbeats 4000000
namespace My
open PySem L2
def top (i : Nat) : Stmt := PySem.Challenge.pw_tintties_k63_searches_by_rule.main.body.getD i (.Pass ⟨0, 0, 0, 0⟩)
section
variable {P : Program} {w : World} {K : PySem.W.Frag} {mg : Str → Option Value} {base : Heap}
abbrev sDraw : Stmt := top 14
def spDraw (K : PySem.W.Frag) : Sp := fun vs H Q _ => ∃ (a : Addr) (ns : List Int) (k : Int), vs = [.ref a, .int k] ∧ SqL K H a (ns.map V.int) ∧ ns.length ≤ 63 ∧ 0 ≤ k ∧ k ≤ 1000000 ∧ Q (.int (draw ns k)) H
theorem scDraw : FnScope ["_law_script", "_law_k", "_law_cell"] ["_law_script", "_law_k"] (defScope sDraw) := ⟨rfl, rfl, rfl, by decide +kernel, rfl, by decide +kernel, by decide +kernel⟩
theorem ok_draw {f : Addr} {fd : FuncData} (F : Fun K "_law_draw" "_law_draw" sDraw f fd) (T : Bi mg) : FnOk P w K mg base CX0 1 f fd ["_law_script", "_law_k"] (spDraw K) := by
  refine F.ok scDraw (fun vs H Q E h => ?_) (fun cdv A outer s H vs Q E hr h => ?_)
  · obtain ⟨a, ns, k, rfl, _⟩ := h
    rfl
  · obtain ⟨a, ns, k, rfl, hS, hl, k0, k1, q⟩ := h
    refine ⟨_, pss_cons (ps_set (i := 2) scDraw.nd rfl (Or.inl rfl) (pe_op op_add (pe_op op_mul pe_int (pv 1)) pe_int))
      (pss_cons (ps_if (pt_cmpR op_gt (pe_callB call_len_seq (by rfl) T.len bLen (pa_c (pv 0) pa_nil)) pe_int (nomark _))
        (pss_one (ps_set (i := 2) scDraw.nd rfl (Or.inl rfl) (pe_op op_add (pe_op op_add (pe_op op_mod (pe_ix ix_list (pv 0) (pe_op op_mod (pv 1) (pe_callB call_len_seq (by rfl) T.len bLen (pa_c (pv 0) pa_nil))) (fun _ _ => rfl)) pe_int)
          (pe_op op_mul (pe_op op_fdiv (pv 1) (pe_callB call_len_seq (by rfl) T.len bLen (pa_c (pv 0) pa_nil))) pe_int)) pe_int))) pss_nil)
      (pss_cons (ps_set (i := 2) scDraw.nd rfl (Or.inl rfl) (pe_op op_mod (pe_op op_add (pe_op op_add (pe_op op_mul (pv 2) pe_int) (pe_op op_mul (pe_op op_mul (pv 1) (pv 1)) pe_int)) pe_int) pe_int))
      (pss_one (ps_ret (pe_op op_mod (pe_op op_mul (pv 2) (pv 2)) pe_int))))), ?_⟩
    refine ⟨_, rfl, _, _, rfl, rfl, .inl ⟨by decide, by decide⟩, _, _, rfl, rfl, ?_⟩
    refine ⟨_, rfl, a, _, rfl, .inl hS, _, _, rfl, rfl, _, rfl, ?_⟩
    have last : ∀ c : Int, c = (if ns.length > 0 then ns.getD (k % (ns.length : Int)).toNat 0 % 2147483629 + k / (ns.length : Int) * 7349 + 1 else 2 * k + 1) →
        (tSeq (tAsg (tOp (rI (fun _ j => 0 < j) fun i j => .int (i % j)) (tOp (rI0 fun i j => .int (i + j)) (tOp (rI0 fun i j => .int (i + j)) (tOp (rI CMul fun i j => .int (i * j)) (tVar 2) (tC (.int 48271))) (tOp (rI CMul fun i j => .int (i * j)) (tOp (rI CMul fun i j => .int (i * j)) (tVar 1) (tVar 1)) (tC (.int 16807)))) (tC (.int 3))) (tC (.int 2147483647))) (gName 2))
          (tRet (tOp (rI (fun _ j => 0 < j) fun i j => .int (i % j)) (tOp (rI CMul fun i j => .int (i * j)) (tVar 2) (tVar 2)) (tC (.int 2147483629))))) { nx := fun _ H' => Q .non H', rt := Q } [some (.ref a), some (.int k), some (.int c)] H := by
      intro c hc
      refine ⟨_, rfl, _, _, rfl, rfl, .inr ⟨by decide, by decide⟩, _, rfl, _, rfl, _, _, rfl, rfl, .inl ⟨by omega, by omega⟩, _, _, rfl, rfl, .inr ⟨by decide, by decide⟩, _, _, rfl, rfl, _, _, rfl, rfl, _, _, rfl, rfl, (by show (0 : Int) < 2147483647; decide), ?_⟩
      have b1 := mod_lo (n := c * 48271 + k * k * 16807 + 3) (p := 2147483647) (by decide)
      have b2 := mod_hi (n := c * 48271 + k * k * 16807 + 3) (p := 2147483647) (by decide)
      refine ⟨_, rfl, _, rfl, _, _, rfl, rfl, .inl ⟨by omega, by omega⟩, _, _, rfl, rfl, (by show (0 : Int) < 2147483629; decide), ?_⟩
      have e : (c * 48271 + k * k * 16807 + 3) % 2147483647 * ((c * 48271 + k * k * 16807 + 3) % 2147483647) % 2147483629 = draw ns k := by
        rw [hc]; rfl
      show Q (.int _) H
      rw [e]
      exact q
    refine ite2 (fun hc => ?_) (fun hc => ?_)
    · have hp : 0 < ns.length := by
        have := of_decide_eq_true hc
        rw [List.length_map] at this
        omega
      have hp' : (0 : Int) < ((ns.map V.int).length : Int) := by rw [List.length_map]; omega
      have m1 := mod_lo (n := k) hp'
      have m2 := mod_hi (n := k) hp'
      rw [List.length_map] at m2
      have ix : L2.atI (ns.map V.int) (k % ((ns.map V.int).length : Int)) = some (V.int (ns.getD (k % (ns.length : Int)).toNat 0)) := by
        have e0 : k % ((ns.map V.int).length : Int) = (((k % (ns.length : Int)).toNat : Nat) : Int) := by
          rw [List.length_map] at m1 ⊢
          omega
        rw [e0]
        refine atI_nat ?_
        have hlt : (k % (ns.length : Int)).toNat < ns.length := by
          rw [List.length_map] at m1
          omega
        rw [List.getElem?_map, List.getD_eq_getElem?_getD, List.getElem?_eq_getElem hlt]
        rfl
      refine ⟨_, rfl, _, rfl, _, rfl, a, _, rfl, .inl hS, _, _, rfl, rfl, hp', a, _, _, _, rfl, rfl, hS, ix, _, _, rfl, rfl, (by show (0 : Int) < 2147483629; decide), _, rfl, _, rfl, a, _, rfl, .inl hS, _, _, rfl, rfl, ⟨hp', by rw [List.length_map]; omega⟩, _, _, rfl, rfl, .inr ⟨by decide, by decide⟩, _, _, rfl, rfl, _, _, rfl, rfl, ?_⟩
      refine last _ ?_
      rw [if_pos hp, List.length_map]
    · have hp : ¬ ns.length > 0 := by
        intro z
        refine hc (decide_eq_true ?_)
        rw [List.length_map]
        omega
      refine last _ ?_
      rw [if_neg hp]
end
end My
set_option Elab.async false
set_option linter.all false
set_option maxRecDepth 100000
set_option maxHeartbeats 4000000
namespace L2
open PySem PySem.Spec PyProof.Rows
theorem op_inK {X : Cx} {K : PySem.W.Frag} (hK : X.K = K) : OpR X (compareOp .In) (rIn K false) := by
  subst hK
  exact op_in_seq
theorem pg_tupK {X : Cx} {K : PySem.W.Frag} {es : List Expr} {k : Nat} {t : TGs} {n : Nat} {pos : Pos} (hK : X.K = K) (hc : X.calm = true) (h : PGs X es t) (h1 : (assignEach es X.env).length = n) (h2 : (assignEach es X.env).findIdx? (·.1) = none) : PG X (.Tuple es k pos) (gTup K n t) := by
  subst hK
  exact pg_tup hc h h1 h2
structure MeE (P : Program) (w : World) (K : PySem.W.Frag) (mg : Str → Option Value) (base : Heap) (C : Addr) (m : Str) (ps : List Str) (k : Nat) (sp : Sp) : Prop where
  ex : ∃ f fd, FnOk P w K mg base CX0 k f fd ps sp ∧ Meth K C m f ∧ Cls K C ∧ Binds K fd ps []
theorem pe_me {X : Cx} {C : Addr} {m : Str} {ps : List Str} {k : Nat} {sp : Sp} {o e : Expr} {es : List Expr} {ta : TE} {t : TA} {apos pos : Pos} {pl : Sem Bool} (F : MeE X.prog X.w X.K X.mg X.base C m ps k sp) (hr : Room k X.A) (he : PE X o ta) (ha : PA X (e :: es) t)
    (h1 : plainE e = true := by rfl) (h2 : es.all plainE = true := by rfl)
    (ht : eval (.Call (.Attribute o m apos) (e :: es) [] pos) X.env = (do
      let ov ← eval o X.env
      standAt apos.atName
      let (f, first) ← holding [ov] (getMethod ov m pl)
      callWith pos f first (backTo pos (starEach (e :: es) X.env)) (backToKw pos (keywordEach [] X.env))) := by rfl) :
    PE X (.Call (.Attribute o m apos) (e :: es) [] pos) (tMeth C m sp [] E0 ta t) :=
  let ⟨_, _, a, b, c, d⟩ := F.ex; pe_meth (pl := pl) he c b a hr d .nil pass0 ha (star_cons h1) (star_any h2) ht
end L2
namespace My
open PySem L2
def compScope : Expr → Scope
  | .ListComp _ _ s _ => s
  | .Call _ [e] _ _ => compScope e
  | .Tuple [_, e] _ _ => compScope e
  | .BinOp _ _ e _ => compScope e
  | .Compare a _ _ _ => compScope a
  | _ => { kind := .function, names := [], isGenerator := false, isCoroutine := false }
def retE : Stmt → Expr
  | .Return (some e) _ => e
  | .Assign _ e _ => e
  | _ => .Constant .none 0 ⟨0, 0, 0, 0⟩
def stOf (i k : Nat) : Stmt := (defBody (top i)).getD k (.Pass ⟨0,0,0,0⟩)
def forB : Stmt → List Stmt
  | .For _ _ b _ _ => b
  | _ => []
def ats (es : List (Nat × Nat)) (x : Nat) : List Nat := (List.range es.length).filter fun j => atB (es.getD j (0, 0)) x
theorem nl_app (l : List Nat) (x : Nat) : nl l ++ [V.int (x : Int)] = nl (l ++ [x]) := by unfold nl; rw [List.map_append]; rfl
theorem in_at (p : Nat) (e : Nat × Nat) : inV (.int (p : Int)) [.int (e.1 : Int), .int (e.2 : Int)] = true ↔ At e p := by
  unfold inV At
  simp only [List.any_cons, List.any_nil, Bool.or_false, eqV, Bool.or_eq_true]
  constructor
  · rintro (h | h)
    · left; have := eq_of_beq h; omega
    · right; have := eq_of_beq h; omega
  · rintro (h | h)
    · left; exact beq_iff_eq.mpr (by rw [h])
    · right; exact beq_iff_eq.mpr (by rw [h])
def atsTo (es : List (Nat × Nat)) (x i : Nat) : List Nat := (List.range i).filter fun j => atB (es.getD j (0, 0)) x
theorem atsTo_in {es : List (Nat × Nat)} {x i : Nat} (h : At (es.getD i (0, 0)) x) : atsTo es x (i + 1) = atsTo es x i ++ [i] := by
  unfold atsTo
  rw [List.range_succ, List.filter_append, List.filter_cons, if_pos (atB_iff.mpr h)]
  rfl
theorem atsTo_out {es : List (Nat × Nat)} {x i : Nat} (h : ¬ At (es.getD i (0, 0)) x) : atsTo es x (i + 1) = atsTo es x i := by
  unfold atsTo
  rw [List.range_succ, List.filter_append, List.filter_cons, if_neg (fun z => h (atB_iff.mp z))]
  simp
theorem atsTo_len (es : List (Nat × Nat)) (x i : Nat) : (atsTo es x i).length ≤ i := by
  unfold atsTo
  exact Nat.le_trans (List.length_filter_le _ _) (by rw [List.length_range]; exact Nat.le_refl _)
section
variable {P : Program} {w : World} {K : PySem.W.Frag} {mg : Str → Option Value} {base : Heap}
abbrev sAt : Stmt := top 7
abbrev atScope : Scope := compScope (retE (stOf 7 0))
def spAt : Sp := fun vs H Q _ => ∃ (p : Addr) (n : Nat) (q : Addr) (ts : List V) (es : List (Nat × Nat)) (x : Nat), vs = [.ref p, .int (x : Int)] ∧ NetZ H p n q ts es ∧ ∀ H' t, Same H H' → H' t = some (.tup (nl (ats es x))) → Q (.ref t) H'
theorem ndAt : (["tie", "ends", "point"] : List Str).Nodup := by decide +kernel
theorem scAt : FnScope ["net", "point"] ["net", "point"] (defScope sAt) := ⟨rfl, rfl, rfl, by decide +kernel, rfl, by decide +kernel, by decide +kernel⟩
theorem blkAt {f : Addr} {cdv : Value} {A : Around} {outer : List Env} {s : Shared} {H : Hp} {E : XK} :
    Blk (cxOf CX0 P w K mg base ["net", "point"] "ties_at" (defScope sAt) f cdv A outer s H E).nox atScope [("point", s.heap.objs.size + 1)] ["tie", "ends", "point"] [none, none, some 1] := by
  refine ⟨rfl, rfl, by decide +kernel, by decide +kernel, fun p hp => ?_, fun y hy e => ?_, ⟨rfl, rfl, rfl⟩, trivial⟩
  · rw [List.mem_singleton.mp hp]
    rfl
  · have hy' : y ∈ [((PySem.Str.ofString ".0" : Str), NameKind.local), (PySem.Str.ofString "tie", .local), (PySem.Str.ofString "ends", .local), (PySem.Str.ofString "point", .free)] := hy
    simp only [List.mem_cons, List.not_mem_nil, or_false] at hy'
    rcases hy' with rfl | rfl | rfl | rfl <;> first | rfl | cases e
theorem ok_at {f : Addr} {fd : FuncData} (F : Fun K "ties_at" "ties_at" sAt f fd) (T : Bi mg) (hen : mg "enumerate" = none) : FnOk P w K mg base CX0 1 f fd ["net", "point"] spAt := by
  refine F.ok scAt (fun vs H Q E h => ?_) (fun cdv A outer s H vs Q E hr h => ?_)
  · obtain ⟨p, n, q, ts, es, x, rfl, _⟩ := h
    rfl
  · obtain ⟨p, n, qa, ts, es, x, rfl, N, q⟩ := h
    refine ⟨_, pss_one (ps_ret (pe_callTy call_tuple_ofS rfl T.tuple bTuple (pa_c (pe_lcE blkAt rfl rfl hen (pa_c (pe_ix ix_tup (pv 0) pe_int (fun _ _ => rfl)) pa_nil) (monoA_cons (mono_ixT (mono_var 0) (mono_c _)) monoA_nil) rfl
      (fun C fp s H => pg_tupK (K := K) (n := 2) rfl rfl (@pgs_cons _ _ _ _ _ (pg_name (i := 0) ndAt rfl (Or.inl rfl) (hf := Or.inr rfl)) (@pgs_cons _ _ _ _ _ (pg_name (i := 1) ndAt rfl (Or.inl rfl) (hf := Or.inr rfl)) pgs_nil rfl) rfl) rfl rfl)
      (fun C fp s H => pts_one (pt_cmpR (op_inK rfl) (pv 2) (pv 1) rfl)) (fun C fp s H => pv 0)) pa_nil))), ?_⟩
    refine ⟨_, rfl, p, _, _, _, rfl, rfl, SqT.of N.e1, rfl, qa, ts, rfl, SqT.of N.e2, (by have := N.len; have := N.l200; omega), fun i ys σ H' => Same H H' ∧ ys = nl (atsTo es x i) ∧ ∃ v0 v1, σ = [v0, v1, some (.int (x : Int))], ⟨Same.refl H, rfl, none, none, rfl⟩, fun i ys σ H' hi ⟨e1, e2, _⟩ => ?_, fun i y ys σ H' hx ⟨e1, e2, v0, v1, e3⟩ Tt H2 s2 hT => ?_, fun ys σ H' ⟨e1, e2, _⟩ l H2 s2 hl => ?_⟩
    · subst e2
      exact ⟨SqT.of (e1 _ _ N.e2), by rw [nl_len]; exact atsTo_len _ _ _⟩
    · subst e2 e3
      obtain ⟨a, rfl, ha⟩ := N.tie i y hx
      have ha2 := s2 _ _ (e1 _ _ ha)
      refine ⟨Tt, _, rfl, SqT.of hT, rfl, _, _, rfl, _, _, rfl, rfl, ?_⟩
      refine ⟨_, rfl, _, rfl, a, _, rfl, .inr (SqT.of ha2), rfl, rfl, _, rfl, ?_⟩
      refine ite2 (fun hh => ⟨_, rfl, Same.trans e1 s2, ?_, _, _, rfl⟩) (fun hh => ⟨Same.trans e1 s2, ?_, _, _, rfl⟩)
      · rw [atsTo_in ((in_at x (es.getD i (0, 0))).mp hh), ← nl_app]
      · rw [atsTo_out fun z => hh ((in_at x (es.getD i (0, 0))).mpr z)]
    · subst e2
      refine ⟨l, _, rfl, .inl hl, fun t H3 s3 ht => q H3 t (Same.trans (Same.trans e1 s2) s3) ?_⟩
      rw [ht, N.len]
      rfl
end
end My
set_option Elab.async false
set_option linter.all false
set_option maxRecDepth 100000
set_option maxHeartbeats 1000000
namespace My
open PySem L2
def nbTo (ls : List Nat) (i : Nat) : List Nat := (List.range i).filter fun x => !ls.contains x
theorem nbTo_len (ls : List Nat) (i : Nat) : (nbTo ls i).length ≤ i := Nat.le_trans (List.length_filter_le _ _) (by rw [List.length_range]; exact Nat.le_refl _)
theorem nbTo_in {ls : List Nat} {i : Nat} (h : ¬ i ∈ ls) : nbTo ls (i + 1) = nbTo ls i ++ [i] := by
  unfold nbTo
  rw [List.range_succ, List.filter_append, List.filter_cons, if_pos (by simpa using h)]
  rfl
theorem nbTo_out {ls : List Nat} {i : Nat} (h : i ∈ ls) : nbTo ls (i + 1) = nbTo ls i := by
  unfold nbTo
  rw [List.range_succ, List.filter_append, List.filter_cons, if_neg (by simpa using h)]
  simp
theorem nl_take {l : List Nat} {i x : Nat} (h : l[i]? = some x) : l.take (i + 1) = l.take i ++ [x] := by rw [List.take_add_one, h]; rfl
theorem nl_at {l : List Nat} {i : Nat} {v : V} (h : (nl l)[i]? = some v) : ∃ x : Nat, l[i]? = some x ∧ v = .int (x : Int) := by
  unfold nl at h
  rw [List.getElem?_map] at h
  cases q : l[i]? with
  | none => rw [q] at h; cases h
  | some x => rw [q] at h; exact ⟨x, rfl, (Option.some.inj h).symm⟩
def prs (ls : List Nat) : List (Key × V) := ls.map fun x : Nat => ((Sum.inl (x : Int) : Key), V.bl true)
theorem prs_in (ls : List Nat) (x : Nat) : (valV (fromPairsK (prs ls)) (Sum.inl (x : Int))).isSome = true ↔ x ∈ ls := by
  rw [fromPairsK_in]
  constructor
  · rintro ⟨p, hp, e⟩
    obtain ⟨y, hy, rfl⟩ := List.mem_map.mp hp
    have := Sum.inl.inj e
    rw [show x = y by omega]
    exact hy
  · exact fun h => ⟨_, List.mem_map.mpr ⟨x, h, rfl⟩, rfl⟩
def clsE : Expr → Scope
  | .ListComp _ _ s _ => s
  | .Call _ [e] _ _ => clsE e
  | _ => { kind := .function, names := [], isGenerator := false, isCoroutine := false }
def Prs (H : Hp) (ys : List V) (ps : List (Key × V)) : Prop := ys.length = ps.length ∧ ∀ (i : Nat) y pr, ys[i]? = some y → ps[i]? = some pr → ∃ b, y = .ref b ∧ H b = some (.tup [kV pr.1, pr.2])
theorem Prs.same {H H' : Hp} {ys : List V} {ps : List (Key × V)} (h : Prs H ys ps) (s : Same H H') : Prs H' ys ps := ⟨h.1, fun i y pr a b => let ⟨c, d, e⟩ := h.2 i y pr a b; ⟨c, d, s _ _ e⟩⟩
theorem Prs.snoc {H : Hp} {ys : List V} {ps : List (Key × V)} {b : Addr} {k : Key} {v : V} (h : Prs H ys ps) (hb : H b = some (.tup [kV k, v])) : Prs H (ys ++ [.ref b]) (ps ++ [(k, v)]) := by
  refine ⟨by rw [List.length_append, List.length_append, h.1]; rfl, fun i y pr e1 e2 => ?_⟩
  by_cases hi : i < ys.length
  · rw [List.getElem?_append_left hi] at e1
    rw [List.getElem?_append_left (by rw [← h.1]; exact hi)] at e2
    exact h.2 i y pr e1 e2
  · have := (List.getElem?_eq_some_iff.mp e1).1
    rw [List.length_append] at this
    have hi2 : i = ys.length := by simp only [List.length_cons, List.length_nil] at this; omega
    subst hi2
    rw [List.getElem?_append_right (Nat.le_refl _), Nat.sub_self] at e1
    rw [h.1, List.getElem?_append_right (Nat.le_refl _), Nat.sub_self] at e2
    cases e1
    cases e2
    exact ⟨b, rfl, hb⟩
section
variable {P : Program} {w : World} {K : PySem.W.Frag} {mg : Str → Option Value} {base : Heap}
abbrev sNb : Stmt := top 10
abbrev nNb : List Str := ["many", "row", "out"]
abbrev nbS1 : Scope := clsE (retE (stOf 10 0))
abbrev nbS2 : Scope := clsE (retE (stOf 10 1))
theorem scNb : FnScope nNb ["many", "row"] (defScope sNb) := ⟨rfl, rfl, rfl, by decide +kernel, rfl, by decide +kernel, by decide +kernel⟩
theorem ndNb1 : (["tint"] : List Str).Nodup := by decide +kernel
theorem ndNb2 : (["tint", "out"] : List Str).Nodup := by decide +kernel
theorem blkNb1 {f : Addr} {cdv : Value} {A : Around} {outer : List Env} {s : Shared} {H : Hp} {E : XK} :
    Blk (cxOf CX0 P w K mg base nNb "not_barred" (defScope sNb) f cdv A outer s H E).nox nbS1 [] ["tint"] [none] := by
  refine ⟨rfl, rfl, by decide +kernel, by decide +kernel, fun p hp => (by cases hp), fun y hy e => ?_, trivial⟩
  have hy' : y ∈ [((PySem.Str.ofString ".0" : Str), NameKind.local), (PySem.Str.ofString "tint", .local)] := hy
  simp only [List.mem_cons, List.not_mem_nil, or_false] at hy'
  rcases hy' with rfl | rfl <;> first | rfl | cases e
theorem blkNb2 {f : Addr} {cdv : Value} {A : Around} {outer : List Env} {s : Shared} {H : Hp} {E : XK} :
    Blk (cxOf CX0 P w K mg base nNb "not_barred" (defScope sNb) f cdv A outer s H E).nox nbS2 [("out", s.heap.objs.size + 1)] ["tint", "out"] [none, some 2] := by
  refine ⟨rfl, rfl, by decide +kernel, by decide +kernel, fun p hp => ?_, fun y hy e => ?_, ⟨rfl, rfl, rfl⟩, trivial⟩
  · rw [List.mem_singleton.mp hp]
    rfl
  · have hy' : y ∈ [((PySem.Str.ofString ".0" : Str), NameKind.local), (PySem.Str.ofString "tint", .local), (PySem.Str.ofString "out", .free)] := hy
    simp only [List.mem_cons, List.not_mem_nil, or_false] at hy'
    rcases hy' with rfl | rfl | rfl <;> first | rfl | cases e
def spNb : Sp := fun vs H Q _ => ∃ (m : Nat) (r : Addr) (ls : List Nat), vs = [.int (m : Int), .ref r] ∧ H r = some (.tup (nl ls)) ∧ m ≤ 1000 ∧ ls.length ≤ 1000 ∧ ∀ H' t, Same H H' → H' t = some (.tup (nl (nbTo ls m))) → Q (.ref t) H'
theorem ok_nb {f : Addr} {fd : FuncData} (F : Fun K "not_barred" "not_barred" sNb f fd) (T : Bi mg) : FnOk P w K mg base CX0 1 f fd ["many", "row"] spNb := by
  refine F.ok scNb (fun vs H Q E h => ?_) (fun cdv A outer s H vs Q E hr h => ?_)
  · obtain ⟨m, r, ls, rfl, _⟩ := h
    rfl
  · obtain ⟨m, r, ls, rfl, hr1, hm, hls, q⟩ := h
    have hu := hu_of hr
    refine ⟨_, pss_cons (ps_set (i := 2) scNb.nd rfl (Or.inr rfl) (pe_callTy (call_dictP hr) rfl T.dict bDict (pa_c (pe_lcT blkNb1 rfl (pv 1) (mono_var 1) (fun C fp s H => pg_name (i := 0) ndNb1 rfl (Or.inl rfl) (hf := Or.inr rfl)) (fun C fp s H => pts_nil)
        (fun C fp s H => pe_tupS (pa_c (pv 0) (pa_c pe_bl pa_nil)))) pa_nil)))
      (pss_one (ps_ret (pe_callTy call_tuple_ofS rfl T.tuple bTuple (pa_c (pe_lcR blkNb2 rfl rfl T.range (pa_c (pv 0) pa_nil) (monoA_cons (mono_var 0) monoA_nil) rfl (fun C fp s H => pg_name (i := 0) ndNb2 rfl (Or.inl rfl) (hf := Or.inr rfl))
        (fun C fp s H => pts_one (pt_cmp (pc_dnotin hu (pv 0) (pv 1)))) (fun C fp s H => pv 0)) pa_nil)))), ?_⟩
    refine ⟨_, rfl, r, _, rfl, SqT.of hr1, by rw [nl_len]; omega, fun i ys σ G => Same H G ∧ Prs G ys (prs (ls.take i)) ∧ ∃ v0, σ = [v0], ⟨Same.refl H, ⟨rfl, fun i y pr e => by cases e⟩, none, rfl⟩, fun i ys σ G hi ⟨e1, e2, _⟩ => ⟨SqT.of (e1 _ _ hr1), by rw [e2.1]; unfold prs; rw [List.length_map, List.length_take]; omega⟩, fun i x ys σ G hx ⟨e1, e2, v0, e3⟩ => ?_, fun ys σ G ⟨e1, e2, _⟩ l G2 s2 hl => ?_⟩
    · subst e3
      obtain ⟨y, hy, rfl⟩ := nl_at hx
      refine ⟨_, rfl, rfl, fun b G2 s2 hb => ⟨Same.trans e1 s2, ?_, _, rfl⟩⟩
      rw [nl_take hy]
      unfold prs
      rw [List.map_append]
      exact (e2.same s2).snoc (k := Sum.inl (y : Int)) hb
    · rw [nl_len, List.take_length] at e2
      have e2' := e2.same s2
      refine ⟨l, ys, prs ls, rfl, SqL.of hl, e2'.1, by rw [e2'.1]; unfold prs; rw [List.length_map]; exact hls, e2'.2, fun d G3 s3 hdn hd => ?_⟩
      refine ⟨_, rfl, m, rfl, by omega, fun i ys σ G => Same G3 G ∧ ys = nl (nbTo ls i) ∧ ∃ v0, σ = [v0, some (.ref d)], ⟨Same.refl _, rfl, none, rfl⟩, fun i ys σ G hi ⟨f1, f2, _⟩ => by rw [f2, nl_len]; exact nbTo_len _ _, fun i ys σ G hi ⟨f1, f2, v0, f3⟩ => ?_, fun ys σ G ⟨f1, f2, _⟩ l2 G4 s4 hl2 => ?_⟩
      · subst f2 f3
        rw [Int.zero_add]
        refine ⟨_, rfl, _, rfl, d, _, rfl, DGet.k (k := Sum.inl (i : Int)) (f1 _ _ hd), _, rfl, ?_⟩
        refine ite2 (fun hh => ⟨_, rfl, f1, ?_, _, rfl⟩) (fun hh => ⟨f1, ?_, _, rfl⟩)
        · rw [nbTo_in (fun z => by rw [(prs_in ls i).mpr z] at hh; cases hh), ← nl_app]
        · rw [nbTo_out]
          refine (prs_in ls i).mp ?_
          cases z : (valV (fromPairsK (prs ls)) (Sum.inl (i : Int))).isSome with
          | true => rfl
          | false => rw [z] at hh; exact absurd rfl hh
      · subst f2
        refine ⟨l2, _, rfl, .inl hl2, fun t G5 s5 ht => q G5 t (Same.trans (Same.trans (Same.trans e1 s2) s3) (Same.trans (Same.trans f1 s4) s5)) ht⟩
end
end My
set_option Elab.async false
set_option linter.all false
set_option maxRecDepth 100000
set_option maxHeartbeats 1000000
namespace My
open PySem L2 Cs
inductive LfR (H : Hp) : List (Key × V) → List (Nat × List Nat) → Prop
  | nil : LfR H [] []
  | cons {n : Nat} {ls : List Nat} {a : Addr} {kvs : List (Key × V)} {lf : List (Nat × List Nat)} : H a = some (.tup (nl ls)) → LfR H kvs lf → LfR H ((Sum.inl (n : Int), .ref a) :: kvs) ((n, ls) :: lf)
def KeepT (H H' : Hp) : Prop := ∀ a xs, H a = some (.tup xs) → H' a = some (.tup xs)
theorem Same.keepT {H H' : Hp} (s : Same H H') : KeepT H H' := fun a xs e => s a _ e
theorem LfR.keep {H H' : Hp} {kvs : List (Key × V)} {lf : List (Nat × List Nat)} (h : LfR H kvs lf) (k : KeepT H H') : LfR H' kvs lf := by
  induction h with
  | nil => exact .nil
  | cons e _ ih => exact .cons (k _ _ e) ih
theorem LfR.len {H : Hp} {kvs : List (Key × V)} {lf : List (Nat × List Nat)} (h : LfR H kvs lf) : kvs.length = lf.length := by
  induction h with
  | nil => rfl
  | cons _ _ ih => rw [List.length_cons, List.length_cons, ih]
theorem LfR.keys {H : Hp} {kvs : List (Key × V)} {lf : List (Nat × List Nat)} (h : LfR H kvs lf) : kvs.map (·.1) = (lf.map fun p => (p.1 : Int)).map Sum.inl := by
  induction h with
  | nil => rfl
  | cons _ _ ih => rw [List.map_cons, List.map_cons, List.map_cons, ih]
theorem inl_ne {n k : Nat} (h : ¬ n = k) : ¬ (Sum.inl (n : Int) : Key) = Sum.inl (k : Int) := fun z => h (by have := Sum.inl.inj z; omega)
theorem LfR.val {H : Hp} {kvs : List (Key × V)} {lf : List (Nat × List Nat)} (h : LfR H kvs lf) (k : Nat) : (valV kvs (Sum.inl (k : Int)) = none ∧ ∀ p ∈ lf, p.1 ≠ k) ∨ ∃ a ls, valV kvs (Sum.inl (k : Int)) = some (.ref a) ∧ (k, ls) ∈ lf ∧ H a = some (.tup (nl ls)) := by
  induction h with
  | nil => exact .inl ⟨rfl, fun p hp => by cases hp⟩
  | @cons n ls a kvs lf e _ ih =>
    by_cases z : n = k
    · subst z
      exact .inr ⟨a, ls, valV_pos rfl, .head _, e⟩
    · rw [valV_neg (inl_ne z)]
      rcases ih with ⟨h1, h2⟩ | ⟨b, l2, h1, h2, h3⟩
      · refine .inl ⟨h1, fun p hp => ?_⟩
        rcases List.mem_cons.mp hp with rfl | hp
        · exact z
        · exact h2 p hp
      · exact .inr ⟨b, l2, h1, .tail _ h2, h3⟩
theorem nd_uniq {lf : List (Nat × List Nat)} (hn : (lf.map (·.1)).Nodup) : ∀ {k : Nat} {l1 l2 : List Nat}, (k, l1) ∈ lf → (k, l2) ∈ lf → l1 = l2 := by
  induction lf with
  | nil => intro k l1 l2 h; cases h
  | cons p lf ih =>
    intro k l1 l2 h1 h2
    obtain ⟨a, b⟩ := List.nodup_cons.mp hn
    rcases List.mem_cons.mp h1 with e1 | m1
    · rcases List.mem_cons.mp h2 with e2 | m2
      · rw [← e1] at e2; exact (Prod.mk.inj e2).2.symm
      · exact absurd (List.mem_map.mpr ⟨_, m2, by rw [← e1]⟩) a
    · rcases List.mem_cons.mp h2 with e2 | m2
      · exact absurd (List.mem_map.mpr ⟨_, m1, by rw [← e2]⟩) a
      · exact ih b m1 m2
theorem LfR.drop {H : Hp} {kvs : List (Key × V)} {lf : List (Nat × List Nat)} (h : LfR H kvs lf) (k : Nat) : LfR H (dropK kvs (Sum.inl (k : Int))) (lf.filter fun p => p.1 != k) := by
  induction h with
  | nil => exact .nil
  | @cons n ls a kvs lf e _ ih =>
    by_cases z : n = k
    · subst z
      rw [dropK_pos rfl, List.filter_cons, if_neg (by simp)]
      exact ih
    · rw [dropK_neg (inl_ne z), List.filter_cons, if_pos (by simpa using z)]
      exact .cons e ih
theorem LfR.put {H : Hp} {kvs : List (Key × V)} {lf : List (Nat × List Nat)} (h : LfR H kvs lf) {k : Nat} {b : Addr} {ls : List Nat} (hb : H b = some (.tup (nl ls))) (hv : (valV kvs (Sum.inl (k : Int))).isSome = true) :
    LfR H (putK kvs (Sum.inl (k : Int)) (.ref b)) (lf.map fun p => if p.1 = k then (p.1, ls) else p) := by
  unfold putK
  rw [valV_any, if_pos hv]
  clear hv
  induction h with
  | nil => exact .nil
  | @cons n l a kvs lf e _ ih =>
    rw [List.map_cons, List.map_cons]
    by_cases z : n = k
    · subst z
      rw [if_pos rfl, if_pos rfl]
      exact .cons hb ih
    · rw [if_neg (inl_ne z), if_neg z]
      exact .cons e ih
theorem LfR.at {H : Hp} {kvs : List (Key × V)} {lf : List (Nat × List Nat)} (h : LfR H kvs lf) : ∀ {i : Nat} {p : Nat × List Nat}, lf[i]? = some p → ∃ a, kvs[i]? = some (Sum.inl (p.1 : Int), .ref a) ∧ H a = some (.tup (nl p.2)) := by
  induction h with
  | nil => intro i p h; cases h
  | @cons n l a kvs lf e _ ih =>
    intro i p h
    cases i with
    | zero => cases h; exact ⟨a, rfl, e⟩
    | succ i => exact ih h
def nar (lf : List (Nat × List Nat)) (t x : Nat) (S : List Nat) : List (Nat × List Nat) := (lf.filter fun p => p.1 != t).map fun p => (p.1, if S.contains p.1 then p.2.filter (fun y => y != x) else p.2)
theorem nar_nil (lf : List (Nat × List Nat)) (t x : Nat) : nar lf t x [] = lf.filter fun p => p.1 != t := by
  unfold nar
  conv => rhs; rw [← List.map_id (lf.filter fun p => p.1 != t)]
  exact List.map_congr_left fun p _ => rfl
theorem nar_nd {lf : List (Nat × List Nat)} (hn : (lf.map (·.1)).Nodup) (t x : Nat) (S : List Nat) : ((nar lf t x S).map (·.1)).Nodup := by
  unfold nar
  rw [List.map_map]
  show ((lf.filter fun p => p.1 != t).map fun p => p.1).Nodup
  rw [List.nodup_iff_pairwise_ne] at hn ⊢
  rw [List.pairwise_map] at hn ⊢
  exact hn.filter _
theorem nar_put {lf : List (Nat × List Nat)} (hn : (lf.map (·.1)).Nodup) {t x y : Nat} {S ls : List Nat} (h : (y, ls) ∈ nar lf t x S) :
    ((nar lf t x S).map fun p => if p.1 = y then (p.1, ls.filter fun z => z != x) else p) = nar lf t x (S ++ [y]) := by
  have hu : ∀ p ∈ nar lf t x S, p.1 = y → p.2 = ls := fun p hp e => nd_uniq (nar_nd hn t x S) (k := y) (by rw [← e]; exact hp) h
  unfold nar at hu ⊢
  rw [List.map_map]
  refine List.map_congr_left fun p hp => ?_
  have hp2 := hu _ (List.mem_map.mpr ⟨p, hp, rfl⟩)
  show (if p.1 = y then (p.1, _) else _) = (p.1, _)
  by_cases e : p.1 = y
  · rw [if_pos e]
    have h2 := hp2 e
    have h3 : (if S.contains p.1 then p.2.filter (fun z => z != x) else p.2) = ls := h2
    have hc : (S ++ [y]).contains p.1 = true := by rw [List.contains_iff_mem, e]; exact List.mem_append_right _ (.head _)
    rw [if_pos hc, ← h3]
    split
    · rw [List.filter_filter]
      refine congrArg _ (List.filter_congr fun z _ => by simp)
    · rfl
  · rw [if_neg e]
    have hc : (S ++ [y]).contains p.1 = S.contains p.1 := by
      rw [Bool.eq_iff_iff, List.contains_iff_mem, List.contains_iff_mem, List.mem_append, List.mem_singleton]
      exact ⟨fun z => z.resolve_right e, .inl⟩
    rw [hc]
theorem nar_no {lf : List (Nat × List Nat)} {t x y : Nat} {S : List Nat} (h : ∀ p ∈ nar lf t x S, p.1 = y → ¬ x ∈ p.2) : nar lf t x S = nar lf t x (S ++ [y]) := by
  unfold nar at h ⊢
  refine List.map_congr_left fun p hp => ?_
  have hp2 := h _ (List.mem_map.mpr ⟨p, hp, rfl⟩)
  by_cases e : p.1 = y
  · have h2 := hp2 e
    have hc : (S ++ [y]).contains p.1 = true := by rw [List.contains_iff_mem, e]; exact List.mem_append_right _ (.head _)
    rw [if_pos hc]
    split
    · rfl
    · next hS =>
      have h3 : ¬ x ∈ p.2 := by
        have : ¬ x ∈ (if S.contains p.1 then p.2.filter (fun z => z != x) else p.2) := h2
        rw [if_neg hS] at this
        exact this
      rw [List.filter_eq_self.mpr fun z hz => by simp only [bne_iff_ne]; exact fun q => h3 (q ▸ hz)]
  · have hc : (S ++ [y]).contains p.1 = S.contains p.1 := by
      rw [Bool.eq_iff_iff, List.contains_iff_mem, List.contains_iff_mem, List.mem_append, List.mem_singleton]
      exact ⟨fun z => z.resolve_right e, .inl⟩
    rw [hc]
def nearOf (es : List (Nat × Nat)) (k : Nat) : List Nat := ats es (es.getD k (0, 0)).1 ++ ats es (es.getD k (0, 0)).2
theorem ats_mem {es : List (Nat × Nat)} {x j : Nat} : j ∈ ats es x ↔ j < es.length ∧ (x = (es.getD j (0, 0)).1 ∨ x = (es.getD j (0, 0)).2) := by
  unfold ats
  rw [List.mem_filter, List.mem_range]
  exact and_congr_right fun _ => atB_iff
theorem near_mem {es : List (Nat × Nat)} {k j : Nat} : j ∈ nearOf es k ↔ j < es.length ∧ mtB es k j = true := by
  unfold nearOf mtB
  rw [List.mem_append, ats_mem, ats_mem]
  simp only [Bool.or_eq_true, beq_iff_eq]
  constructor
  · rintro (⟨h, e | e⟩ | ⟨h, e | e⟩)
    · exact ⟨h, .inl (.inl (.inl e))⟩
    · exact ⟨h, .inl (.inl (.inr e))⟩
    · exact ⟨h, .inl (.inr e)⟩
    · exact ⟨h, .inr e⟩
  · rintro ⟨h, ((e | e) | e) | e⟩
    · exact .inl ⟨h, .inl e⟩
    · exact .inl ⟨h, .inr e⟩
    · exact .inr ⟨h, .inl e⟩
    · exact .inr ⟨h, .inr e⟩
theorem ats_len (es : List (Nat × Nat)) (x : Nat) : (ats es x).length ≤ es.length := Nat.le_trans (List.length_filter_le _ _) (by rw [List.length_range]; exact Nat.le_refl _)
theorem nar_lfs {es : List (Nat × Nat)} {bs : List (List Nat)} {m : Nat} {tl : Tl} {t x : Nat} (hl : tl.length = es.length) (ht : t < tl.length) (hb : tl.getD t none = none) : nar (lfs es bs m tl) t x (nearOf es t) = lfs es bs m (tl.set t (some x)) := by
  rw [lfs_set ht hb]
  unfold nar
  refine List.map_congr_left fun p hp => ?_
  obtain ⟨k, hk, e⟩ := List.mem_map.mp (List.mem_filter.mp hp).1
  have hk2 : p.1 < es.length := by rw [← e, ← hl]; exact (bare_mem.mp hk).1
  have hc : (nearOf es t).contains p.1 = mtB es t p.1 := by
    rw [Bool.eq_iff_iff, List.contains_iff_mem, near_mem]
    exact ⟨fun h => h.2, fun h => ⟨hk2, h⟩⟩
  rw [hc]
theorem lfs_nd (es : List (Nat × Nat)) (bs : List (List Nat)) (m : Nat) (tl : Tl) : ((lfs es bs m tl).map (·.1)).Nodup := by
  unfold lfs
  rw [List.map_map]
  show ((bare tl).map fun k => k).Nodup
  rw [List.map_id']
  exact bare_nd tl
def Nrs (H : Hp) (l : Addr) (es : List (Nat × Nat)) : Prop := ∃ xs, H l = some (.lst xs) ∧ xs.length = es.length ∧ ∀ k, k < es.length → ∃ a, xs[k]? = some (.ref a) ∧ H a = some (.tup (nl (nearOf es k)))
theorem Nrs.same {H H' : Hp} {l : Addr} {es : List (Nat × Nat)} (h : Nrs H l es) (s : ∀ b o, H b = some o → (b = l ∨ ∃ xs, o = .tup xs) → H' b = some o) : Nrs H' l es :=
  let ⟨xs, a, b, c⟩ := h; ⟨xs, s _ _ a (.inl rfl), b, fun k hk => let ⟨d, e, f⟩ := c k hk; ⟨d, e, s _ _ f (.inr ⟨_, rfl⟩)⟩⟩
end My
set_option Elab.async false
set_option linter.all false
set_option maxRecDepth 100000
set_option maxHeartbeats 1000000
namespace L2
open PySem PySem.Spec PyProof.Rows
theorem ix_tupQ {X : Cx} {K : PySem.W.Frag} (hK : X.K = K) : IxR X (rIxT K) := by
  subst hK
  exact ix_tup
end L2
namespace My
open PySem L2 Cs
theorem put_most (x v : V) : putF "most" v [(("near" : Str), x)] = [(("near" : Str), x), ("most", v)] := by
  unfold putF
  rw [if_neg (by decide +kernel)]
  rfl
theorem put_looked (x y v : V) : putF "looked" v [(("near" : Str), x), ("most", y)] = [(("near" : Str), x), ("most", y), ("looked", v)] := by
  unfold putF
  rw [if_neg (by decide +kernel)]
  unfold putF
  rw [if_neg (by decide +kernel)]
  rfl
theorem put_looked2 (x y u v : V) : putF "looked" v [(("near" : Str), x), ("most", y), ("looked", u)] = [(("near" : Str), x), ("most", y), ("looked", v)] := by
  unfold putF
  rw [if_neg (by decide +kernel)]
  unfold putF
  rw [if_neg (by decide +kernel)]
  unfold putF
  rw [if_pos rfl]
structure SrC (K : PySem.W.Frag) (C : Addr) : Prop where
  cl : Cls K C
  n1 : NoAttr K C "near"
  n2 : NoAttr K C "most"
  n3 : NoAttr K C "looked"
section
variable {P : Program} {w : World} {K : PySem.W.Frag} {mg : Str → Option Value} {base : Heap} {cS : Addr}
abbrev sIn : Stmt := inClass (top 11) 0
abbrev nIn : List Str := ["self", "net", "most"]
abbrev inS : Scope := clsE (retE ((defBody sIn).getD 0 (.Pass ⟨0,0,0,0⟩)))
theorem scIn : FnScope nIn ["self", "net", "most"] (defScope sIn) := ⟨rfl, rfl, rfl, by decide +kernel, rfl, by decide +kernel, by decide +kernel⟩
theorem ndIn : (["ends", "net"] : List Str).Nodup := by decide +kernel
theorem blkIn {f : Addr} {cdv : Value} {A : Around} {outer : List Env} {s : Shared} {H : Hp} {E : XK} :
    Blk (cxOf CX0 P w K mg base nIn "Search.__init__" (defScope sIn) f cdv A outer s H E).nox inS [("net", s.heap.objs.size + 1)] ["ends", "net"] [none, some 1] := by
  refine ⟨rfl, rfl, by decide +kernel, by decide +kernel, fun p hp => ?_, fun y hy e => ?_, ⟨rfl, rfl, rfl⟩, trivial⟩
  · rw [List.mem_singleton.mp hp]
    rfl
  · have hy' : y ∈ [((PySem.Str.ofString ".0" : Str), NameKind.local), (PySem.Str.ofString "ends", .local), (PySem.Str.ofString "ties_at", .globalImplicit), (PySem.Str.ofString "net", .free)] := hy
    simp only [List.mem_cons, List.not_mem_nil, or_false] at hy'
    rcases hy' with rfl | rfl | rfl | rfl <;> first | rfl | cases e
def spIn (cS : Addr) : Sp := fun vs H Q _ => ∃ (sf p dx : Addr) (m : Int) (n : Nat) (q : Addr) (ts : List V) (es : List (Nat × Nat)), vs = [.ref sf, .ref p, .int m] ∧ H sf = some (.ins cS dx []) ∧ NetZ H p n q ts es ∧
  ∀ H' l, (∀ b o, b ≠ sf → H b = some o → H' b = some o) → H' sf = some (.ins cS dx [("near", .ref l), ("most", .int m), ("looked", .int 0)]) → Nrs H' l es → Q .non H'
theorem ok_in {f : Addr} {fd : FuncData} (F : Fun K "__init__" "Search.__init__" sIn f fd) (T : Bi mg) (S : SrC K cS) (FA : FnE P w K mg base "ties_at" ["net", "point"] 1 spAt) : FnOk P w K mg base CX0 2 f fd ["self", "net", "most"] (spIn cS) := by
  refine F.ok scIn (fun vs H Q E h => ?_) (fun cdv A outer s H vs Q E hr h => ?_)
  · obtain ⟨sf, p, dx, m, n, q, ts, es, rfl, _⟩ := h
    rfl
  · obtain ⟨sf, p, dx, m, n, qa, ts, es, rfl, hs, N, q⟩ := h
    refine ⟨_, pss_cons (ps_fld (pv 0) (pe_lcT blkIn rfl (pe_ix ix_tup (pv 1) pe_int (fun _ _ => rfl)) (mono_ixT (mono_var 1) (mono_c _)) (fun C fp s H => pg_name (i := 0) ndIn rfl (Or.inl rfl) (hf := Or.inr rfl)) (fun C fp s H => pts_nil)
        (fun C fp s H => pe_op op_catTS (pe_fc FA hr (pa_c (pv 1) (pa_c (pe_ix (ix_tupQ (K := K) rfl) (pv 0) pe_int (fun _ _ => rfl)) pa_nil))) (pe_fc FA hr (pa_c (pv 1) (pa_c (pe_ix (ix_tupQ (K := K) rfl) (pv 0) pe_int (fun _ _ => rfl)) pa_nil))))) rfl)
      (pss_cons (ps_fld (pv 0) (pv 2) rfl) (pss_one (ps_fld (pv 0) pe_int rfl))), ?_⟩
    have hlen := N.len
    have hl2 := N.l200
    refine ⟨_, rfl, p, _, _, _, rfl, rfl, SqT.of N.e1, rfl, qa, ts, rfl, SqT.of N.e2, by omega, fun i ys σ G => Same H G ∧ ys.length = i ∧ (∀ k, k < i → ∃ a, ys[k]? = some (.ref a) ∧ G a = some (.tup (nl (nearOf es k)))) ∧ ∃ v0, σ = [v0, some (.ref p)], ⟨Same.refl H, rfl, fun k hk => absurd hk (Nat.not_lt_zero _), none, rfl⟩, fun i ys σ G hi ⟨e1, e2, _⟩ => ⟨SqT.of (e1 _ _ N.e2), by omega⟩, fun i y ys σ G hx ⟨e1, e2, e4, v0, e3⟩ => ?_, fun ys σ G ⟨e1, e2, e4, _⟩ l G2 s2 hl => ?_⟩
    · subst e3
      obtain ⟨a, rfl, ha⟩ := N.tie i y hx
      have ha2 := e1 _ _ ha
      have N1 := N.same e1
      refine ⟨_, rfl, _, rfl, a, _, _, _, rfl, rfl, SqT.of ha2, rfl, p, n, qa, ts, es, _, rfl, N1, fun G1 t1 s1 h1 => ?_⟩
      refine ⟨_, rfl, _, rfl, a, _, _, _, rfl, rfl, SqT.of (s1 _ _ ha2), rfl, p, n, qa, ts, es, _, rfl, N1.same s1, fun G2 t2 s2 h2 => ?_⟩
      refine ⟨t1, t2, _, _, rfl, rfl, s2 _ _ h1, h2, ?_, fun t3 G3 s3 h3 => ⟨Same.trans e1 (Same.trans s1 (Same.trans s2 s3)), by rw [List.length_append, e2]; rfl, fun k hk => ?_, _, rfl⟩⟩
      · rw [nl_len, nl_len]
        have := ats_len es (es.getD i (0, 0)).1
        have := ats_len es (es.getD i (0, 0)).2
        omega
      · by_cases z : k < i
        · obtain ⟨b, b1, b2⟩ := e4 k z
          exact ⟨b, by rw [List.getElem?_append_left (by omega)]; exact b1, s3 _ _ (s2 _ _ (s1 _ _ b2))⟩
        · have z2 : k = i := by omega
          subst z2
          refine ⟨t3, by rw [List.getElem?_append_right (by omega), e2, Nat.sub_self]; rfl, ?_⟩
          rw [h3]
          unfold nearOf nl
          rw [List.map_append]
    · have hs2 := s2 _ _ (e1 _ _ hs)
      refine ⟨_, rfl, sf, cS, dx, [], rfl, hs2, S.cl, S.n1, by decide, ?_⟩
      refine ⟨_, rfl, _, rfl, sf, cS, dx, [("near", .ref l)], rfl, upd_same, S.cl, S.n2, (by show 1 < 1000; decide), ?_⟩
      rw [put_most, upd_upd]
      refine ⟨_, rfl, sf, cS, dx, [("near", .ref l), ("most", .int m)], rfl, upd_same, S.cl, S.n3, (by show 2 < 1000; decide), ?_⟩
      rw [put_looked, upd_upd]
      have hls : l ≠ sf := fun z => by rw [z, hs2] at hl; cases hl
      have ok : ∀ b o, b ≠ sf → H b = some o → upd G2 sf (.ins cS dx [("near", .ref l), ("most", .int m), ("looked", .int 0)]) b = some o := fun b o hb e => by rw [upd_ne hb]; exact s2 _ _ (e1 _ _ e)
      refine q _ l ok upd_same ⟨ys, by rw [upd_ne hls]; exact hl, by omega, fun k hk => ?_⟩
      obtain ⟨a, a1, a2⟩ := e4 k (by omega)
      refine ⟨a, a1, ?_⟩
      have a3 := s2 _ _ a2
      rw [upd_ne fun z => by rw [z, hs2] at a3; cases a3]
      exact a3
abbrev sNr : Stmt := inClass (top 11) 1
abbrev nNr : List Str := ["self", "left", "tie", "tint", "rest", "near"]
def nrS : List Stmt → Scope
  | [.If _ [.Assign _ e _] _ _] => clsE e
  | _ => { kind := .function, names := [], isGenerator := false, isCoroutine := false }
abbrev nrS1 : Scope := nrS (forB ((defBody sNr).getD 2 (.Pass ⟨0,0,0,0⟩)))
theorem scNr : FnScope nNr ["self", "left", "tie", "tint"] (defScope sNr) := ⟨rfl, rfl, rfl, by decide +kernel, rfl, by decide +kernel, by decide +kernel⟩
theorem ndNr : (["kept", "tint"] : List Str).Nodup := by decide +kernel
theorem blkNr {f : Addr} {cdv : Value} {A : Around} {outer : List Env} {s : Shared} {H : Hp} {E : XK} :
    Blk (cxOf CX0 P w K mg base nNr "Search.narrowed" (defScope sNr) f cdv A outer s H E).nox nrS1 [("tint", s.heap.objs.size + 1)] ["kept", "tint"] [none, some 3] := by
  refine ⟨rfl, rfl, by decide +kernel, by decide +kernel, fun p hp => ?_, fun y hy e => ?_, ⟨rfl, rfl, rfl⟩, trivial⟩
  · rw [List.mem_singleton.mp hp]
    rfl
  · have hy' : y ∈ [((PySem.Str.ofString ".0" : Str), NameKind.local), (PySem.Str.ofString "kept", .local), (PySem.Str.ofString "tint", .free)] := hy
    simp only [List.mem_cons, List.not_mem_nil, or_false] at hy'
    rcases hy' with rfl | rfl | rfl <;> first | rfl | cases e
def spNr (cS : Addr) : Sp := fun vs H Q _ => ∃ (sf d dx l : Addr) (t x : Nat) (fs : List (Str × V)) (kvs : List (Key × V)) (lf : List (Nat × List Nat)) (es : List (Nat × Nat)), vs = [.ref sf, .ref d, .int (t : Int), .int (x : Int)] ∧ H sf = some (.ins cS dx fs) ∧ fs.lookup ("near" : Str) = some (.ref l) ∧ Nrs H l es ∧ es.length ≤ 200 ∧ t < es.length ∧
  H d = some (.dK kvs) ∧ LfR H kvs lf ∧ (lf.map (·.1)).Nodup ∧ lf.length ≤ 200 ∧ (∀ p ∈ lf, p.2.length ≤ 1000) ∧ (∃ p ∈ lf, p.1 = t) ∧
  ∀ H' d' kvs', Same H H' → H' d' = some (.dK kvs') → LfR H' kvs' (nar lf t x (nearOf es t)) → Q (.ref d') H'
theorem in_nl (k : Nat) (l : List Nat) : inV (.int (k : Int)) (nl l) = true ↔ k ∈ l := by
  unfold inV nl
  rw [List.any_map, List.any_eq_true]
  constructor
  · rintro ⟨x, hx, e⟩
    have e' : ((x : Int) == (k : Int)) = true := e
    have := eq_of_beq e'
    rw [show k = x by omega]
    exact hx
  · intro h
    exact ⟨k, h, (beq_iff_eq.mpr rfl : ((k : Int) == (k : Int)) = true)⟩
theorem flat_nl (l : List Nat) : (nl l).all flatV = true := by
  unfold nl
  rw [List.all_map, List.all_eq_true]
  exact fun x _ => rfl
theorem flt_in {l : List Nat} {i x y : Nat} (h : l[i]? = some y) (hy : y ≠ x) : (l.take (i + 1)).filter (fun z => z != x) = (l.take i).filter (fun z => z != x) ++ [y] := by
  rw [nl_take h, List.filter_append, List.filter_cons, if_pos (by simpa using hy)]
  rfl
theorem flt_out {l : List Nat} {i x y : Nat} (h : l[i]? = some y) (hy : y = x) : (l.take (i + 1)).filter (fun z => z != x) = (l.take i).filter (fun z => z != x) := by
  rw [nl_take h, List.filter_append, List.filter_cons, if_neg (by simpa using hy)]
  simp
theorem nar_le {lf : List (Nat × List Nat)} {t x : Nat} {S : List Nat} (h : ∀ p ∈ lf, p.2.length ≤ 1000) : ∀ p ∈ nar lf t x S, p.2.length ≤ 1000 := by
  intro p hp
  obtain ⟨q, hq, rfl⟩ := List.mem_map.mp hp
  have := h q (List.mem_filter.mp hq).1
  show (if S.contains q.1 then q.2.filter (fun y => y != x) else q.2).length ≤ 1000
  split
  · exact Nat.le_trans (List.length_filter_le _ _) this
  · exact this
theorem nar_len (lf : List (Nat × List Nat)) (t x : Nat) (S : List Nat) : (nar lf t x S).length ≤ lf.length := by
  unfold nar
  rw [List.length_map]
  exact List.length_filter_le _ _
theorem ok_nr {f : Addr} {fd : FuncData} (F : Fun K "narrowed" "Search.narrowed" sNr f fd) (T : Bi mg) (S : SrC K cS) : FnOk P w K mg base CX0 1 f fd ["self", "left", "tie", "tint"] (spNr cS) := by
  refine F.ok scNr (fun vs H Q E h => ?_) (fun cdv A outer s H vs Q E hr h => ?_)
  · obtain ⟨sf, d, dx, l, t, x, fs, kvs, lf, es, rfl, _⟩ := h
    rfl
  · obtain ⟨sf, d, dx, l, t, x, fs, kvs, lf, es, rfl, hs, hfs, N, hes, ht, hd, L, hn, hll, hle, hmem, q⟩ := h
    have hu := hu_of hr
    refine ⟨_, pss_cons (ps_set (i := 4) scNr.nd rfl (Or.inl rfl) (pe_callTy call_dictC rfl T.dict bDict (pa_c (pv 1) pa_nil)))
      (pss_cons (ps_expr (pe_dpop1 (pv 4) (pv 2) ⟨rfl, rfl, rfl, rfl⟩))
      (pss_cons (ps_for PassesOwn.never rfl (pi_tup (pe_ix ix_list (pe_fld (pv 0) rfl) (pv 2) (fun _ _ => rfl))) (pg_name (i := 5) scNr.nd rfl (Or.inl rfl))
        (pss_one (ps_if (PW.pt (pw_and (pt_cmp (pc_din hu (pv 5) (pv 4))) (pw_and1 (pt_cmpR op_in_seq (pv 3) (pe_dget hu (pv 4) (pv 5) (fun _ _ => rfl)) rfl))))
          (pss_one (ps_dput hu (pv 4) (pv 5) (pe_callTy call_tuple_ofS rfl T.tuple bTuple (pa_c (pe_lcT blkNr rfl (pe_dget hu (pv 4) (pv 5) (fun _ _ => rfl)) (fun σ H Q Q' k ⟨v, e, w1, e1, a, o, h1, h2, h3⟩ => ⟨v, e, w1, e1, a, o, h1, h2, k _ _ h3⟩) (fun C fp s H => pg_name (i := 0) ndNr rfl (Or.inl rfl) (hf := Or.inr rfl))
            (fun C fp s H => pts_one (pt_cmpR op_ne (pv 0) (pv 1) rfl)) (fun C fp s H => pv 0)) pa_nil)) rfl)) pss_nil)))
      (pss_one (ps_ret (pv 4))))), ?_⟩
    obtain ⟨nrs, hnl, hnlen, hnat⟩ := N
    obtain ⟨na, hna, hnt⟩ := hnat t ht
    refine ⟨_, rfl, d, kvs, rfl, hd, fun r hr0 => ?_⟩
    have s0 : Same H (upd H r (.dK kvs)) := same_new hr0
    obtain ⟨v0, hv0⟩ : ∃ v0, valV kvs (Sum.inl (t : Int)) = some v0 := by
      rcases L.val t with ⟨_, z⟩ | ⟨a, ls, z, _⟩
      · obtain ⟨p, hp, e⟩ := hmem
        exact absurd e (z p hp)
      · exact ⟨_, z⟩
    refine ⟨_, rfl, r, rfl, .inl ⟨kvs, .inl upd_same⟩, _, rfl, kvs, Sum.inl (t : Int), v0, upd_same, rfl, hv0, ?_⟩
    rw [upd_upd]
    have s1 : Same H (upd H r (.dK (dropK kvs (Sum.inl (t : Int))))) := same_new hr0
    refine ⟨_, rfl, sf, cS, dx, fs, _, rfl, s1 _ _ hs, S.cl, S.n1, hfs, _, rfl, l, _, _, _, rfl, rfl, SqL.of (s1 _ _ hnl), atI_nat hna, na, rfl, ⟨_, SqT.of (s1 _ _ hnt)⟩, ?_⟩
    refine for_tup (K := K) (a := na) (xs := nl (nearOf es t)) (fun i σ G => (∃ v5, σ = [some (.ref sf), some (.ref d), some (.int (t : Int)), some (.int (x : Int)), some (.ref r), v5]) ∧ Same H G ∧ ∃ ks, G r = some (.dK ks) ∧ LfR G ks (nar lf t x ((nearOf es t).take i)))
      ⟨⟨_, rfl⟩, s1, _, upd_same, ?_⟩ (fun i σ G _ ⟨_, sG, _⟩ => SqT.of (sG _ _ hnt)) (fun i y σ G hx ⟨⟨v5, e⟩, sG, ks, hG, LG⟩ => ?_) (fun σ G ⟨⟨v5, e⟩, sG, ks, hG, LG⟩ => ?_)
    · rw [List.take_zero, nar_nil]
      exact (L.keep (Same.keepT s1)).drop t
    · subst e
      obtain ⟨y, hy, rfl⟩ := nl_at hx
      rw [nl_take hy]
      refine ⟨_, rfl, ?_⟩
      rcases LG.val y with ⟨z1, z2⟩ | ⟨a, ls, z1, z2, z3⟩
      · refine ⟨_, rfl, r, _, rfl, DGet.k (k := Sum.inl (y : Int)) hG, ?_⟩
        rw [z1]
        refine ⟨_, rfl, iteF ?_⟩
        exact ⟨⟨_, rfl⟩, sG, ks, hG, by rw [← nar_no fun p hp e => absurd e (z2 p hp)]; exact LG⟩
      · have hls := nar_le (S := (nearOf es t).take i) (t := t) (x := x) hle _ z2
        refine ⟨_, rfl, r, _, rfl, DGet.k (k := Sum.inl (y : Int)) hG, ?_⟩
        rw [z1]
        refine ⟨_, rfl, iteT ?_⟩
        have dg : DGet G r (.int (y : Int)) (some (.ref a)) := by
          have := DGet.k (k := Sum.inl (y : Int)) hG
          rw [z1] at this
          exact this
        refine ⟨_, rfl, _, rfl, _, rfl, r, _, rfl, dg, a, _, rfl, .inr (SqT.of z3), rfl, flat_nl ls, _, rfl, ?_⟩
        refine ite2 (fun hh => ?_) (fun hh => ?_)
        · have hxin := (in_nl x ls).mp hh
          refine ⟨_, rfl, _, rfl, r, _, rfl, dg, a, _, rfl, SqT.of z3, by rw [nl_len]; exact Nat.le_trans hls (by decide), fun i ys σ G' => Same G G' ∧ ys = nl ((ls.take i).filter fun z => z != x) ∧ ∃ v0, σ = [v0, some (.int (x : Int))], ⟨Same.refl _, rfl, none, rfl⟩, fun i ys σ G' hi ⟨f1, f2, _⟩ => ⟨SqT.of (f1 _ _ z3), ?_⟩, fun i u ys σ G' hu' ⟨f1, f2, v0, f3⟩ => ?_, fun ys σ G' ⟨f1, f2, _⟩ l2 G2 s2 hl2 => ?_⟩
          · rw [f2, nl_len]
            exact Nat.le_trans (List.length_filter_le _ _) (by rw [List.length_take]; omega)
          · subst f2 f3
            obtain ⟨u, hu2, rfl⟩ := nl_at hu'
            refine ⟨_, rfl, _, rfl, rfl, ?_⟩
            by_cases z : u = x
            · subst z
              refine ⟨_, rfl, ?_⟩
              rw [decide_eq_true rfl]
              refine iteF ⟨f1, ?_, _, rfl⟩
              rw [flt_out hu2 rfl]
            · refine ⟨_, rfl, ?_⟩
              rw [decide_eq_false (fun q => z (by have := V.int.inj q; omega))]
              refine iteT ⟨_, rfl, f1, ?_, _, rfl⟩
              rw [flt_in hu2 z, ← nl_app]
          · subst f2
            rw [nl_len, List.take_length] at hl2
            refine ⟨l2, _, rfl, .inl hl2, fun b G3 s3 hb => ?_⟩
            have sG3 : Same G G3 := Same.trans f1 (Same.trans s2 s3)
            have hG3 := sG3 _ _ hG
            refine ⟨_, rfl, _, rfl, r, _, rfl, DPut.k (k := Sum.inl (y : Int)) hG3 ?_, ⟨_, rfl⟩, ?_, _, upd_same, ?_⟩
            · have h1 := LG.len
              have h2 := nar_len lf t x ((nearOf es t).take i)
              exact Nat.lt_of_lt_of_le (show ks.length < 1000 by omega) (leMil (by decide))
            · exact (Same.trans sG sG3).wr hr0
            · have L3 := (LG.keep (Same.keepT sG3)).put (k := y) hb (by rw [z1]; rfl)
              rw [nar_put hn z2] at L3
              refine L3.keep fun c xs e => ?_
              rw [upd_ne fun z => by rw [z, hG3] at e; cases e]
              exact e
        · refine ⟨⟨_, rfl⟩, sG, ks, hG, ?_⟩
          rw [← nar_no fun p hp e => ?_]
          · exact LG
          · intro z
            have e2 : p.2 = ls := nd_uniq (nar_nd hn t x _) (k := y) (by rw [← e]; exact hp) z2
            rw [e2] at z
            exact hh ((in_nl x ls).mpr z)
    · subst e
      rw [nl_len, List.take_length] at LG
      exact ⟨_, rfl, q G r ks sG hG LG⟩
end
end My
set_option Elab.async false
set_option linter.all false
set_option maxRecDepth 100000
set_option maxHeartbeats 1000000
namespace My
open PySem L2 Cs
def CaseAt (es : List (Nat × Nat)) (bs : List (List Nat)) (m : Nat) (H : Hp) : Nat → Tl → V → Prop
  | 0, _, _ => False
  | n + 1, tl, v => ∃ (t : Nat) (ls : List Nat) (a : Addr), best (lfs es bs m tl) = some (t, ls) ∧ v = .ref a ∧
    ((ls = [] ∧ H a = some (.tup [.str "stuck", .int (t : Int)])) ∨
     (ls ≠ [] ∧ ∃ (b : Addr) (vs : List V), H a = some (.tup [.str "tie", .int (t : Int), .ref b]) ∧ H b = some (.tup vs) ∧ vs.length = ls.length ∧
      ∀ (i x : Nat), ls[i]? = some x → ∃ (c : Addr) (y : V), vs[i]? = some (.ref c) ∧ H c = some (.tup [.int (x : Int), y]) ∧ CaseAt es bs m H n (tl.set t (some x)) y))
theorem CaseAt.keep {es : List (Nat × Nat)} {bs : List (List Nat)} {m : Nat} {H H' : Hp} (k : KeepT H H') : ∀ {n : Nat} {tl : Tl} {v : V}, CaseAt es bs m H n tl v → CaseAt es bs m H' n tl v
  | 0, _, _, h => h.elim
  | n + 1, tl, v, ⟨t, ls, a, h1, h2, h3⟩ => by
    refine ⟨t, ls, a, h1, h2, ?_⟩
    rcases h3 with ⟨e, h3⟩ | ⟨e, b, vs, h3, h4, h5, h6⟩
    · exact .inl ⟨e, k _ _ h3⟩
    · refine .inr ⟨e, b, vs, k _ _ h3, k _ _ h4, h5, fun i x hx => ?_⟩
      obtain ⟨c, y, g1, g2, g3⟩ := h6 i x hx
      exact ⟨c, y, g1, k _ _ g2, CaseAt.keep k g3⟩
def ResAt (es : List (Nat × Nat)) (bs : List (List Nat)) (m : Nat) (H : Hp) (n : Nat) (tl : Tl) (v : V) : Prop :=
  match (go es bs m n tl).1 with
  | some r => ∃ a b, v = .ref a ∧ H a = some (.tup [.str "tints", .ref b]) ∧ H b = some (.tup (tv r))
  | none => ∃ a y, v = .ref a ∧ H a = some (.tup [.str "cases", y]) ∧ CaseAt es bs m H n tl y
theorem ResAt.full {es : List (Nat × Nat)} {bs : List (List Nat)} {m : Nat} {H : Hp} {n : Nat} {tl r : Tl} {v : V} (h : ResAt es bs m H n tl v) (e : (go es bs m n tl).1 = some r) : ∃ a b, v = .ref a ∧ H a = some (.tup [.str "tints", .ref b]) ∧ H b = some (.tup (tv r)) := by
  unfold ResAt at h
  rw [e] at h
  exact h
theorem ResAt.case {es : List (Nat × Nat)} {bs : List (List Nat)} {m : Nat} {H : Hp} {n : Nat} {tl : Tl} {v : V} (h : ResAt es bs m H n tl v) (e : (go es bs m n tl).1 = none) : ∃ a y, v = .ref a ∧ H a = some (.tup [.str "cases", y]) ∧ CaseAt es bs m H n tl y := by
  unfold ResAt at h
  rw [e] at h
  exact h
theorem ResAt.of_full {es : List (Nat × Nat)} {bs : List (List Nat)} {m : Nat} {H : Hp} {n : Nat} {tl r : Tl} {v : V} (e : (go es bs m n tl).1 = some r) (h : ∃ a b, v = .ref a ∧ H a = some (.tup [.str "tints", .ref b]) ∧ H b = some (.tup (tv r))) : ResAt es bs m H n tl v := by
  unfold ResAt
  rw [e]
  exact h
theorem ResAt.of_case {es : List (Nat × Nat)} {bs : List (List Nat)} {m : Nat} {H : Hp} {n : Nat} {tl : Tl} {v : V} (e : (go es bs m n tl).1 = none) (h : ∃ a y, v = .ref a ∧ H a = some (.tup [.str "cases", y]) ∧ CaseAt es bs m H n tl y) : ResAt es bs m H n tl v := by
  unfold ResAt
  rw [e]
  exact h
theorem cut_set {tl : Tl} {t x : Nat} (ht : t < tl.length) : cutV (tv tl) none (some (t : Int)) ++ [.int (x : Int)] ++ cutV (tv tl) (some ((t : Int) + 1)) none = tv (tl.set t (some x)) := by
  unfold cutV
  rw [show ((t : Int) + 1) = ((t + 1 : Nat) : Int) from rfl, HT.sIx_nat, HT.sIx_nat, HT.sIx_none, HT.sIx_none]
  have hl : (tv tl).length = tl.length := by unfold tv; rw [List.length_map]
  rw [hl, List.drop_zero, Nat.sub_zero, Nat.min_eq_left (Nat.le_of_lt ht), Nat.min_eq_left ht]
  unfold tv
  rw [← List.map_take, ← List.map_drop, List.take_of_length_le (l := (tl.drop (t + 1)).map tN) (by rw [List.length_map, List.length_drop]; exact Nat.le_refl _)]
  rw [List.set_eq_take_append_cons_drop, if_pos ht, List.map_append, List.map_cons, List.append_assoc]
  rfl
theorem lft_len (es : List (Nat × Nat)) (bs : List (List Nat)) (m : Nat) (tl : Tl) (k : Nat) : (lft es bs m tl k).length ≤ m := by
  unfold lft
  exact Nat.le_trans (List.length_filter_le _ _) (by rw [List.length_range]; exact Nat.le_refl _)
theorem lfs_le {es : List (Nat × Nat)} {bs : List (List Nat)} {m : Nat} {tl : Tl} (hm : m ≤ 1000) : ∀ p ∈ lfs es bs m tl, p.2.length ≤ 1000 := by
  intro p hp
  obtain ⟨k, _, rfl⟩ := List.mem_map.mp hp
  exact Nat.le_trans (lft_len es bs m tl k) hm
theorem bare_le (tl : Tl) : (bare tl).length ≤ tl.length := Nat.le_trans (List.length_filter_le _ _) (by rw [List.length_range]; exact Nat.le_refl _)
theorem lfs_len (es : List (Nat × Nat)) (bs : List (List Nat)) (m : Nat) (tl : Tl) : (lfs es bs m tl).length = (bare tl).length := by unfold lfs; rw [List.length_map]
theorem lfs_mem {es : List (Nat × Nat)} {bs : List (List Nat)} {m : Nat} {tl : Tl} {k : Nat} {ls : List Nat} (h : (k, ls) ∈ lfs es bs m tl) : ls = lft es bs m tl k := by
  obtain ⟨j, _, e⟩ := List.mem_map.mp h
  cases e
  rfl
end My
set_option Elab.async false
set_option linter.all false
set_option maxRecDepth 100000
set_option maxHeartbeats 4000000
namespace L2
open PySem PySem.Spec PyProof.Rows
structure FunC (K : PySem.W.Frag) (x qual : Str) (st : Stmt) (f : Addr) (fd : FuncData) (c : Addr) : Prop where
  ex : ∃ (oc : Value) (od : Option Addr) (kV doc pm : Value) (an : Option Addr) (ct : Value) (osl : Array (Option Value)),
    fd = PySem.W.fnOf x qual (defArgs st) (defBody st) (defScope st) .none kV doc pm an (.ref c) ct ∧ K.lookup f = some ⟨oc, od, .func fd, osl⟩ ∧ PySem.W.codeIn K (.ref c) qual = true
section
variable {P : Program} {w : World} {K : PySem.W.Frag} {mg : Str → Option Value} {base : Heap}
theorem FunC.ok {x qual : Str} {st : Stmt} {f c : Addr} {fd : FuncData} {N ps : List Str} {k : Nat} {sp : Sp} (F : FunC K x qual st f fd c) (S : FnScope N ps (defScope st)) (len : ∀ vs H Q E, sp vs H Q E → vs.length = ps.length)
    (hbody : ∀ (A : Around) (outer : List Env) (s : Shared) (H : Hp) (vs : List V) (Q : VK) (E : XK), Room k (A.deeper (envOfC qual (defScope st) s.heap.objs.size f (.ref c))) → sp vs H Q E →
      ∃ t, PSs (cxOf CX0 P w K mg base N qual (defScope st) f (.ref c) A outer s H E).nox (defBody st) t ∧ t { nx := fun _ H' => Q .non H', rt := Q } (start N vs) H) : FnOk P w K mg base CX0 (k + 1) f fd ps sp := by
  obtain ⟨oc, od, kV, doc, pm, an, ct, osl, rfl, lk, hcd⟩ := F.ex
  refine fn_of lk hcd S len fun A outer s H vs Q E hr hsp => ?_
  obtain ⟨t, h, q⟩ := hbody A outer s H vs Q E hr hsp
  exact ⟨t, h.nox, q⟩
end
theorem Gr.none {P : Addr} {pos : Pos} {qual : Str} {H H' : Hp} (g : Gr P pos qual H H') {d : Addr} (h : H' d = Option.none) : H d = Option.none := by
  cases q : H d with
  | none => rfl
  | some o =>
    by_cases hd : d = P
    · subst hd
      rcases g.tab with t | ⟨c', t, _⟩
      · rw [h] at t; cases t
      · rw [h] at t; cases t
    · rw [g.keep d o q hd] at h; cases h
theorem Gr.new {P : Addr} {pos : Pos} {qual : Str} {H H' : Hp} (g : Gr P pos qual H H') {d : Addr} {o : HO} (h : H' d = Option.none) : Gr P pos qual H (upd H' d o) := g.same (same_new h)
theorem Gr.lst {P : Addr} {pos : Pos} {qual : Str} {H H' : Hp} (g : Gr P pos qual H H') {d : Addr} {xs ys : List V} (h : H' d = some (.lst xs)) (hn : H d = Option.none) : Gr P pos qual H (upd H' d (.lst ys)) := by
  refine ⟨fun b o e n => by rw [upd_ne (ne_of_none e hn)]; exact g.keep b o e n, ?_⟩
  rcases g.tab with t | ⟨c', t, u⟩
  · exact .inl (by rw [upd_ne (ne_of t h fun z => nomatch z)]; exact t)
  · exact .inr ⟨c', by rw [upd_ne (ne_of t h fun z => nomatch z)]; exact t, by rw [upd_ne (ne_of u h fun z => nomatch z)]; exact u⟩
def Tk (H H' : Hp) : Prop := ∀ q xs, H q = some (.tup xs) → H' q = some (.tup xs)
theorem Tk.trans {H H1 H2 : Hp} (a : Tk H H1) (b : Tk H1 H2) : Tk H H2 := fun q xs e => b q xs (a q xs e)
theorem Same.tk {H H' : Hp} (s : Same H H') : Tk H H' := fun q xs e => s q _ e
theorem Gr.tk {P : Addr} {pos : Pos} {qual : Str} {H H' : Hp} (g : Gr P pos qual H H') (t : TabI P pos qual H) : Tk H H' := fun q xs e => g.keep q _ e fun z => by
  subst z
  rcases t with t | ⟨c', t, _⟩
  · rw [e] at t; cases t
  · rw [e] at t; cases t
def kwLam : Stmt → Expr
  | .Assign _ (.Call _ _ [⟨_, e, _⟩] _) _ => e
  | _ => .Constant .none 0 ⟨0, 0, 0, 0⟩
def lamScope : Expr → Scope
  | .Lambda _ _ s _ => s
  | _ => { kind := .function, names := [], isGenerator := false, isCoroutine := false }
def lamArgs : Expr → Arguments
  | .Lambda a _ _ _ => a
  | _ => { posonlyargs := [], args := [], vararg := none, kwonlyargs := [], kw_defaults := [], kwarg := none, defaults := [] }
end L2
set_option Elab.async false
set_option linter.all false
set_option maxRecDepth 100000
set_option maxHeartbeats 1000000
namespace RX
open PySem PySem.Spec PyProof.Rows L2 PySem.W
theorem funCX_ok {P : Program} {w : World} {K : Frag} {mg : Str → Option Value} {base : Heap} {x qual : Str} {st : Stmt} {f c : Addr} {fd : FuncData} {N ps : List Str} {k : Nat} {sp : Sp} (F : L2.FunC K x qual st f fd c) (S : FnScope N ps (L2.defScope st)) (len : ∀ vs H Q E, sp vs H Q E → vs.length = ps.length)
    (hbody : ∀ (A : Around) (outer : List Env) (s : Shared) (H : Hp) (vs : List V) (Q : VK) (E : XK), Room k (A.deeper (envOfC qual (L2.defScope st) s.heap.objs.size f (.ref c))) → sp vs H Q E →
      ∃ t, PSs (cxOf (CXe P w) P w K mg base N qual (L2.defScope st) f (.ref c) A outer s H E) (L2.defBody st) t ∧ t { nx := fun _ H' => Q .non H', rt := Q } (start N vs) H) : FnOk P w K mg base (CXe P w) (k + 1) f fd ps sp := by
  obtain ⟨oc, od, kV, doc, pm, an, ct, osl, rfl, lk, hcd⟩ := F.ex
  exact fn_of lk hcd S len fun A outer s H vs Q E hr hsp => hbody A outer s H vs Q E hr hsp
end RX
namespace L2
open PySem
theorem PS.nox {X : Cx} {st : Stmt} {t : TS} (h : PS X.nox st t) : PS X st t := fun pins s σ H D I hw =>
  wpAny_mono (h pins s σ H D (I.wish _) hw) (fun _ _ q => q.unwish) fun _ _ z => False.elim z
end L2
namespace My
open PySem L2 Cs
section
variable {P : Program} {w : World} {K : PySem.W.Frag} {mg : Str → Option Value} {base : Heap} {cS cT Pt c : Addr}
abbrev sLk : Stmt := inClass (top 11) 2
abbrev nLk : List Str := ["self", "tints", "left", "tie", "branches", "tint", "told"]
abbrev lamE : Expr := kwLam ((defBody sLk).getD 3 (.Pass ⟨0, 0, 0, 0⟩))
abbrev lpos : Pos := ⟨49, 28, 49, 56⟩
abbrev lqual : Str := "Search.look.<locals>.<lambda>"
abbrev TabL (Pt : Addr) (H : Hp) : Prop := TabI Pt lpos lqual H
structure Lk (Pt sf : Addr) (H H' : Hp) : Prop where
  keep : ∀ b o, b ≠ Pt → b ≠ sf → H b = some o → H' b = some o
  tab : TabL Pt H'
theorem TabI.tbl {P : Addr} {pos : Pos} {qual : Str} {H : Hp} (t : TabI P pos qual H) {o : HO} (h : H P = some o) : ∃ ps, o = .tbl ps := by
  rcases t with t | ⟨c', t, _⟩
  · rw [h] at t; exact ⟨_, Option.some.inj t⟩
  · rw [h] at t; exact ⟨_, Option.some.inj t⟩
theorem Lk.trans {Pt sf : Addr} {H H1 H2 : Hp} (a : Lk Pt sf H H1) (b : Lk Pt sf H1 H2) : Lk Pt sf H H2 := ⟨fun c o h1 h2 e => b.keep c o h1 h2 (a.keep c o h1 h2 e), b.tab⟩
theorem Lk.same {Pt sf : Addr} {H H1 H2 : Hp} (a : Lk Pt sf H H1) (s : Same H1 H2) : Lk Pt sf H H2 := ⟨fun c o h1 h2 e => s _ _ (a.keep c o h1 h2 e), a.tab.same s⟩
theorem Lk.ok {Pt sf : Addr} {H H' : Hp} {b C dx : Addr} {fs : List (Str × V)} {o : HO} (a : Lk Pt sf H H') (t : TabL Pt H) (hs : H sf = some (.ins C dx fs)) (e : H b = some o) (h1 : ∀ ps, o ≠ .tbl ps) (h2 : ∀ C dx fs, o ≠ .ins C dx fs) : H' b = some o := by
  refine a.keep b o (fun z => ?_) (fun z => ?_) e
  · subst z
    obtain ⟨ps, h⟩ := TabI.tbl t e
    exact h1 ps h
  · subst z
    rw [hs] at e
    exact h2 _ _ _ (Option.some.inj e).symm
theorem Lk.keepT {Pt sf : Addr} {H H' : Hp} {C dx : Addr} {fs : List (Str × V)} (a : Lk Pt sf H H') (t : TabL Pt H) (hs : H sf = some (.ins C dx fs)) : KeepT H H' := fun b xs e => a.ok t hs e (fun _ => by simp) fun _ _ _ => by simp
theorem Lk.nrs {Pt sf l : Addr} {H H' : Hp} {C dx : Addr} {fs : List (Str × V)} {es : List (Nat × Nat)} (a : Lk Pt sf H H') (t : TabL Pt H) (hs : H sf = some (.ins C dx fs)) (N : Nrs H l es) : Nrs H' l es := by
  obtain ⟨xs, a1, a2, a3⟩ := N
  refine ⟨xs, a.ok t hs a1 (fun _ => by simp) fun _ _ _ => by simp, a2, fun k hk => ?_⟩
  obtain ⟨b, b1, b2⟩ := a3 k hk
  exact ⟨b, b1, a.keepT t hs _ _ b2⟩
abbrev sfO (cS dx l : Addr) (mo c : Nat) : HO := .ins cS dx [("near", .ref l), ("most", .int (mo : Int)), ("looked", .int (c : Int))]
def spLook (cS cT Pt : Addr) (es : List (Nat × Nat)) (bs : List (List Nat)) (m n : Nat) : Sp := fun vs H Q E => ∃ (sf tq d dx l : Addr) (k mo : Nat) (tl : Tl) (kvs : List (Key × V)), vs = [.ref sf, .ref tq, .ref d] ∧ H sf = some (sfO cS dx l mo k) ∧ Nrs H l es ∧ es.length ≤ 200 ∧ m ≤ 1000 ∧ H tq = some (.tup (tv tl)) ∧ tl.length = es.length ∧
  H d = some (.dK kvs) ∧ LfR H kvs (lfs es bs m tl) ∧ (bare tl).length ≤ n ∧ TabL Pt H ∧
  (k + (go es bs m n tl).2 ≤ mo → ∀ H' v, Lk Pt sf H H' → H' sf = some (sfO cS dx l mo (k + (go es bs m n tl).2)) → ResAt es bs m H' n tl v → Q v H') ∧
  (mo < k + (go es bs m n tl).2 → ∀ H' dx', Lk Pt sf H H' → H' dx' = none → E (.ref cT) (some dx') (upd H' dx' (.xd [("most", .int (mo : Int))])))
theorem scLk : FnScope nLk ["self", "tints", "left"] (defScope sLk) := ⟨rfl, rfl, rfl, by decide +kernel, rfl, by decide +kernel, by decide +kernel⟩
theorem lamL : Lam "bare" ["left"] (lamArgs lamE) (lamScope lamE) := ⟨rfl, rfl, rfl, by decide +kernel, rfl, fun _ _ _ _ _ _ _ _ => rfl, by decide +kernel⟩
theorem blkL {f : Addr} {A : Around} {outer : List Env} {s : Shared} {H : Hp} {E : XK} :
    Blk (cxOf (RX.CXe P w) P w K mg base nLk "Search.look" (defScope sLk) f (.ref c) A outer s H E).nox (lamScope lamE) [("left", s.heap.objs.size + 1)] ["left"] [some 2] := by
  refine ⟨rfl, rfl, by decide +kernel, by decide +kernel, fun p hp => ?_, fun y hy e => ?_, ⟨rfl, rfl, rfl⟩, trivial⟩
  · rw [List.mem_singleton.mp hp]
    rfl
  · have hy' : y ∈ [((PySem.Str.ofString "bare" : Str), NameKind.local), (PySem.Str.ofString "left", .free), (PySem.Str.ofString "len", .globalImplicit)] := hy
    simp only [List.mem_cons, List.not_mem_nil, or_false] at hy'
    rcases hy' with rfl | rfl | rfl <;> first | rfl | cases e
structure Grt (P : Program) (w : World) (K : PySem.W.Frag) (mg : Str → Option Value) (base : Heap) (cT : Addr) : Prop where
  ex : ∃ (D fI : Addr) (fdI : FuncData), RX.XCl K cT D ∧ PySem.W.findIn K (.ref cT) "__init__" = some (some (.ref fI)) ∧ PySem.W.isFn K (.ref fI) = true ∧ FnOk P w K mg base CX0 1 fI fdI ["self", "most"] (RX.spInit cT "most") ∧ L2.Binds K fdI ["self", "most"] []
  at_ : mg "TooGreat" = some (.ref cT)
theorem ok_look0 {f : Addr} {fd : FuncData} (F : FunC K "look" "Search.look" sLk f fd c) (T : Bi mg) (S : SrC K cS) (G : Grt P w K mg base cT) (es : List (Nat × Nat)) (bs : List (List Nat)) (m : Nat) : FnOk P w K mg base (RX.CXe P w) 5 f fd ["self", "tints", "left"] (spLook cS cT Pt es bs m 0) := by
  refine RX.funCX_ok F scLk (fun vs H Q E h => ?_) (fun A outer s H vs Q E hr h => ?_)
  · obtain ⟨sf, tq, d, dx, l, k, mo, tl, kvs, rfl, _⟩ := h
    rfl
  · obtain ⟨sf, tq, d, dx, l, k, mo, tl, kvs, rfl, hs, N, hes, hm, htq, htl, hd, L, hb, hT, q1, q2⟩ := h
    obtain ⟨D, fI, fdI, xc, hi, hfn, FI, bI⟩ := G.ex
    refine ⟨_, pss_cons (PS.nox (ps_fldaug (pv 0) pe_int in_add))
      (pss_cons (ps_if (PT.nox (pt_cmpR op_gt (pe_fld (pv 0) rfl) (pe_fld (pv 0) rfl) (nomark _))) (pss_one (RX.ps_raiseF xc hi hfn (FI.mono (j := 1) (k := 3) (by decide)) hr bI rfl G.at_ (pa_c (pe_fld (pv 0) rfl) pa_nil) rfl rfl rfl (fun _ _ h => h))) pss_nil)
      (pss_cons (ps_if (PT.nox (pt_not (pt_truth (pv 2) (fun _ => rfl)))) (pss_one (ps_ret (pe_tupS (pa_c pe_str (pa_c (pv 1) pa_nil))))) pss_nil)
      pss_never)), ?_⟩
    have hbare : bare tl = [] := List.eq_nil_of_length_eq_zero (Nat.le_zero.mp hb)
    have hlf : lfs es bs m tl = [] := by unfold lfs; rw [hbare]; rfl
    have hgo : go es bs m 0 tl = (some tl, 1) := rfl
    rw [hgo] at q1 q2
    rw [hlf] at L
    have hk0 : kvs = [] := by cases L; rfl
    subst hk0
    refine ⟨_, rfl, sf, cS, dx, _, _, rfl, hs, S.cl, S.n3, rfl, _, _, rfl, rfl, dx, _, hs, (by show 3 < 1000; decide), ?_⟩
    rw [put_looked2, show ((k : Int) + 1) = ((k + 1 : Nat) : Int) from rfl]
    have lk1 : Lk Pt sf H (upd H sf (sfO cS dx l mo (k + 1))) := ⟨fun b o _ h2 e => by rw [upd_ne h2]; exact e, by
      have hPs : Pt ≠ sf := fun z => by
        obtain ⟨ps, h⟩ := TabI.tbl hT (show H Pt = some _ by rw [z]; exact hs)
        cases h
      rcases hT with t | ⟨c', t1, t2⟩
      · exact .inl (by rw [upd_ne hPs]; exact t)
      · exact .inr ⟨c', by rw [upd_ne hPs]; exact t1, by rw [upd_ne fun z => by rw [z, hs] at t2; cases t2]; exact t2⟩⟩
    refine ⟨_, rfl, sf, cS, dx, _, _, rfl, upd_same, S.cl, S.n3, rfl, _, rfl, sf, cS, dx, _, _, rfl, upd_same, S.cl, S.n2, rfl, _, _, rfl, rfl, _, rfl, ?_⟩
    refine ite2 (fun z => ?_) (fun z => ?_)
    · have hz := of_decide_eq_true z
      exact ⟨_, rfl, sf, cS, dx, _, _, rfl, upd_same, S.cl, S.n2, rfl, _, rfl, fun dx' hdx => q2 (by omega) _ dx' lk1 hdx⟩
    · have hz : k + 1 ≤ mo := by
        by_cases y : k + 1 ≤ mo
        · exact y
        · exact absurd (decide_eq_true (by omega)) z
      refine ⟨_, rfl, false, .inr (.inr ⟨[], by rw [upd_ne fun z => by rw [z, hs] at hd; cases hd]; exact hd, rfl⟩), iteT ?_⟩
      refine ⟨_, rfl, rfl, fun a H' s' ha => q1 hz H' (.ref a) (lk1.same s') (s' _ _ upd_same) (ResAt.of_full (r := tl) rfl ⟨a, tq, rfl, ha, s' _ _ (by rw [upd_ne fun z => by rw [z, hs] at htq; cases htq]; exact htq)⟩)⟩
end
end My
set_option Elab.async false
set_option linter.all false
set_option maxRecDepth 100000
set_option maxHeartbeats 2000000
namespace My
open PySem L2 Cs
theorem br_some {g : Tl → Option Tl × Nat} {tl r : Tl} {t x c k : Nat} {xs : List Nat} (h : g (tl.set t (some x)) = (some r, k)) : br g tl t (x :: xs) c = (some r, c + k) := by
  rw [br, h]
theorem br_none {g : Tl → Option Tl × Nat} {tl : Tl} {t x c k : Nat} {xs : List Nat} (h : g (tl.set t (some x)) = (none, k)) : br g tl t (x :: xs) c = br g tl t xs (c + k) := by
  rw [br, h]
theorem drop_at {l : List Nat} {i x : Nat} (h : l[i]? = some x) : l.drop i = x :: l.drop (i + 1) := by
  obtain ⟨hi, e⟩ := List.getElem?_eq_some_iff.mp h
  rw [List.drop_eq_getElem_cons hi, e]
theorem lfs_at {es : List (Nat × Nat)} {bs : List (List Nat)} {m : Nat} {tl : Tl} {i : Nat} {p : Nat × List Nat} (h : (lfs es bs m tl)[i]? = some p) : p.2 = lft es bs m tl p.1 := by
  have := List.mem_of_getElem? h
  obtain ⟨k, _, rfl⟩ := List.mem_map.mp this
  rfl
section
variable {P : Program} {w : World} {K : PySem.W.Frag} {mg : Str → Option Value} {base : Heap} {cS cT Pt c : Addr}
theorem ok_lookS {f : Addr} {fd : FuncData} (F : FunC K "look" "Search.look" sLk f fd c) (T : Bi mg) (S : SrC K cS) (G : Grt P w K mg base cT) (hbm : BM mg base) (hC : PySem.W.codeHdIn K c Pt = true) (hM : Meth K cS "look" f) (bL : L2.Binds K fd ["self", "tints", "left"] [])
    (MN : MeE P w K mg base cS "narrowed" ["self", "left", "tie", "tint"] 1 (spNr cS)) (es : List (Nat × Nat)) (bs : List (List Nat)) (m n : Nat) (IH : FnOk P w K mg base (RX.CXe P w) (n + 5) f fd ["self", "tints", "left"] (spLook cS cT Pt es bs m n)) :
    FnOk P w K mg base (RX.CXe P w) (n + 1 + 5) f fd ["self", "tints", "left"] (spLook cS cT Pt es bs m (n + 1)) := by
  refine RX.funCX_ok (k := n + 5) F scLk (fun vs H Q E h => ?_) (fun A outer s H vs Q E hr h => ?_)
  · obtain ⟨sf, tq, d, dx, l, k, mo, tl, kvs, rfl, _⟩ := h
    rfl
  · obtain ⟨sf, tq, d, dx, l, k, mo, tl, kvs, rfl, hs, N, hes, hm, htq, htl, hd, L, hb, hT, q1, q2⟩ := h
    obtain ⟨D, fI, fdI, xc, hi, hfn, FI, bI⟩ := G.ex
    have hu := hu_of hr
    have hr3 : Room 3 _ := hr.mono (by omega)
    have hr1 : Room 1 _ := hr.mono (by omega)
    refine ⟨_, pss_cons (PS.nox (ps_fldaug (pv 0) pe_int in_add))
      (pss_cons (ps_if (PT.nox (pt_cmpR op_gt (pe_fld (pv 0) rfl) (pe_fld (pv 0) rfl) (nomark _))) (pss_one (RX.ps_raiseF xc hi hfn (FI.mono (j := 1) (k := n + 4) (by omega)) hr bI rfl G.at_ (pa_c (pe_fld (pv 0) rfl) pa_nil) rfl rfl rfl (fun _ _ h => h))) pss_nil)
      (pss_cons (ps_if (PT.nox (pt_not (pt_truth (pv 2) (fun _ => rfl)))) (pss_one (ps_ret (pe_tupS (pa_c pe_str (pa_c (pv 1) pa_nil))))) pss_nil)
      (pss_cons (PS.nox (ps_set (i := 3) scLk.nd rfl (Or.inl rfl) (pe_minLam (k := 0) (x := "bare") (P := Pt) (qual := lqual) blkL lamL hbm rfl hC rfl rfl hr3 rfl T.min (pv 2)
        (fun f' c' A' s' H' hr' => pe_callB (call_lenK (K := K) rfl) rfl T.len bLen (pa_c (pe_dget (hu_of hr') (pv 1) (pv 0) (fun _ _ => rfl)) pa_nil)))))
      (pss_cons (ps_if (PT.nox (pt_not (pt_truth (pe_dget hu (pv 2) (pv 3) (fun _ _ => rfl)) (fun _ => rfl)))) (pss_one (ps_ret (pe_tupS (pa_c pe_str (pa_c (pe_tupS (pa_c pe_str (pa_c (pv 3) pa_nil))) pa_nil))))) pss_nil)
      (pss_cons (PS.nox (ps_set (i := 4) scLk.nd rfl (Or.inl rfl) (pe_lst pa_nil)))
      (pss_cons (ps_for RX.ownX rfl (pi_tup (pe_dget hu (pv 2) (pv 3) (fun _ _ => rfl))) (pg_name (i := 5) scLk.nd rfl (Or.inl rfl))
        (pss_cons (ps_set (i := 6) scLk.nd rfl (Or.inl rfl) (pe_meth (pv 0) S.cl hM IH hr bL .nil (RX.passX fun _ _ _ z => z)
          (pa_c (pe_op op_catTS (pe_op op_catTS (pe_slice sl_tup (pv 1) po_none (po_some (pv 3))) (pe_tupS (pa_c (pv 5) pa_nil))) (pe_slice sl_tup (pv 1) (po_some (pe_op op_add (pv 3) pe_int)) po_none))
          (pa_c (pe_me MN hr1 (pv 0) (pa_c (pv 2) (pa_c (pv 3) (pa_c (pv 5) pa_nil)))) pa_nil))))
        (pss_cons (ps_if (PT.nox (pt_cmpR op_eq (pe_ix ix_tup (pv 6) pe_int (fun _ _ => rfl)) pe_str (nomark _))) (pss_one (ps_ret (pv 6))) pss_nil)
        (pss_one (PS.nox (ps_expr (pe_bm PySem.F.plainAttrs_list PySem.F.slot_list_append PySem.F.type_list_append mt_append (pv 4) (pa_c (pe_tupS (pa_c (pv 5) (pa_c (pe_ix ix_tup (pv 6) pe_int (fun _ _ => rfl)) pa_nil))) pa_nil))))))))
      (pss_one (ps_ret (pe_tupS (pa_c pe_str (pa_c (pe_tupS (pa_c pe_str (pa_c (pv 3) (pa_c (pe_callTy call_tuple_ofS rfl T.tuple bTuple (pa_c (pv 4) pa_nil)) pa_nil)))) pa_nil))))))))))), ?_⟩
    have hgp : 1 ≤ (go es bs m (n + 1) tl).2 := go_pos
    refine ⟨_, rfl, sf, cS, dx, _, _, rfl, hs, S.cl, S.n3, rfl, _, _, rfl, rfl, dx, _, hs, (by show 3 < 1000; decide), ?_⟩
    rw [put_looked2, show ((k : Int) + 1) = ((k + 1 : Nat) : Int) from rfl]
    have lk1 : Lk Pt sf H (upd H sf (sfO cS dx l mo (k + 1))) := ⟨fun b o _ h2 e => by rw [upd_ne h2]; exact e, by
      have hPs : Pt ≠ sf := fun z => by
        obtain ⟨ps, h⟩ := TabI.tbl hT (show H Pt = some _ by rw [z]; exact hs)
        cases h
      rcases hT with t | ⟨c', t1, t2⟩
      · exact .inl (by rw [upd_ne hPs]; exact t)
      · exact .inr ⟨c', by rw [upd_ne hPs]; exact t1, by rw [upd_ne fun z => by rw [z, hs] at t2; cases t2]; exact t2⟩⟩
    obtain ⟨H1, hH1⟩ : ∃ H1, H1 = upd H sf (sfO cS dx l mo (k + 1)) := ⟨_, rfl⟩
    have hs1 : H1 sf = some (sfO cS dx l mo (k + 1)) := by rw [hH1]; exact upd_same
    rw [← hH1] at lk1 ⊢
    refine ⟨_, rfl, sf, cS, dx, _, _, rfl, hs1, S.cl, S.n3, rfl, _, rfl, sf, cS, dx, _, _, rfl, hs1, S.cl, S.n2, rfl, _, _, rfl, rfl, _, rfl, ?_⟩
    refine ite2 (fun z => ?_) (fun z => ?_)
    · have hz := of_decide_eq_true z
      exact ⟨_, rfl, sf, cS, dx, _, _, rfl, hs1, S.cl, S.n2, rfl, _, rfl, fun dx' hdx => q2 (by omega) _ dx' lk1 hdx⟩
    have hz : k + 1 ≤ mo := by
      by_cases y : k + 1 ≤ mo
      · exact y
      · exact absurd (decide_eq_true (by omega)) z
    have hd1 : H1 d = some (.dK kvs) := lk1.ok hT hs hd (fun _ => by simp) fun _ _ _ => by simp
    have htq1 : H1 tq = some (.tup (tv tl)) := lk1.keepT hT hs _ _ htq
    have L1 := L.keep (lk1.keepT hT hs)
    refine ⟨_, rfl, !kvs.isEmpty, .inr (.inr ⟨kvs, hd1, rfl⟩), ?_⟩
    cases hbest : best (lfs es bs m tl) with
    | none =>
      have hk0 : kvs = [] := by
        rw [best_none.mp hbest] at L
        cases L
        rfl
      subst hk0
      refine iteT ?_
      have hgo := go_none (n := n + 1) hbest
      rw [hgo] at q1
      exact ⟨_, rfl, rfl, fun a H' s' ha => q1 hz H' (.ref a) (lk1.same s') (s' _ _ hs1) (ResAt.of_full (r := tl) (by rw [hgo]) ⟨a, tq, rfl, ha, s' _ _ htq1⟩)⟩
    | some bq =>
      obtain ⟨t, ls⟩ := bq
      obtain ⟨b1, b2, b3, b4⟩ := best_in hbest
      have hgo := go_some (n := n) hbest
      have hne : kvs.isEmpty = false := by
        have h1 := L.len
        cases kvs with
        | nil =>
          rw [List.eq_nil_of_length_eq_zero h1.symm] at hbest
          cases hbest
        | cons _ _ => rfl
      rw [hne]
      refine iteF ?_
      have hlen := L1.len
      refine ⟨_, rfl, d, kvs, (lfs es bs m tl).map (fun p => (p.1 : Int)), fun z => ((lft es bs m tl z.toNat).length : Int), [.ref d], rfl, hd1, L1.keys, ?_, lk1.tab, rfl, fun z hz' H3 k3 r3 => ?_, fun H2 g2 i z hiz hmin => ?_⟩
      · rw [List.length_map]
        cases hq : lfs es bs m tl with
        | nil => rw [hq] at hbest; cases hbest
        | cons _ _ => exact Nat.succ_pos _
      · obtain ⟨p, hp, rfl⟩ := List.mem_map.mp hz'
        rcases L1.val p.1 with ⟨_, y2⟩ | ⟨a, ls', y1, y2, y3⟩
        · exact absurd rfl (y2 p hp)
        · have e1 := lfs_mem y2
          have hsa : H3 a = some (.tup (nl ls')) := by
            refine k3 a _ (fun z => ?_) (fun z => ?_) y3
            · rw [z, hd1] at y3; cases y3
            · obtain ⟨ps, h⟩ := TabI.tbl lk1.tab (show H1 Pt = some _ by rw [← z]; exact y3)
              cases h
          refine ⟨_, rfl, _, rfl, d, _, rfl, .inl ⟨kvs, Sum.inl (p.1 : Int), r3, rfl, y1.symm⟩, a, _, rfl, .inr (SqT.of hsa), ?_⟩
          refine ⟨?_, rfl⟩
          show V.int ((nl ls').length : Int) = V.int ((lft es bs m tl (p.1 : Int).toNat).length : Int)
          rw [nl_len, e1, Int.toNat_natCast]
      obtain ⟨p, hp, rfl⟩ : ∃ p, (lfs es bs m tl)[i]? = some p ∧ z = (p.1 : Int) := by
        rw [List.getElem?_map] at hiz
        cases hq : (lfs es bs m tl)[i]? with
        | none => rw [hq] at hiz; cases hiz
        | some p => rw [hq] at hiz; exact ⟨p, rfl, (Option.some.inj hiz).symm⟩
      have hbp : best (lfs es bs m tl) = some p := best_of hp fun j p' hj => by
        have h1 := hmin j (p'.1 : Int) (by rw [List.getElem?_map, hj]; rfl)
        dsimp only at h1
        rw [Int.toNat_natCast, Int.toNat_natCast] at h1
        rw [lfs_at hp, lfs_at hj]
        exact ⟨by omega, fun hji => by have := h1.2 hji; omega⟩
      rw [hbest] at hbp
      cases hbp
      have lk2 : Lk Pt sf H H2 := ⟨fun b o h1 h2 e => g2.keep b o (lk1.keep b o h1 h2 e) h1, g2.tab⟩
      have hs2 : H2 sf = some (sfO cS dx l mo (k + 1)) := g2.keep _ _ hs1 fun z => by
        obtain ⟨ps, h⟩ := TabI.tbl lk1.tab (show H1 Pt = some _ by rw [← z]; exact hs1)
        cases h
      have hd2 : H2 d = some (.dK kvs) := lk2.ok hT hs hd (fun _ => by simp) fun _ _ _ => by simp
      have L2' := L.keep (lk2.keepT hT hs)
      obtain ⟨la, hva, hla⟩ : ∃ la, valV kvs (Sum.inl (t : Int)) = some (.ref la) ∧ H la = some (.tup (nl ls)) := by
        rcases L.val t with ⟨_, y2⟩ | ⟨a, ls', y1, y2, y3⟩
        · exact absurd rfl (y2 (t, ls) (best_mem hbest))
        · rw [lfs_mem y2, ← b4] at y3
          exact ⟨a, y1, y3⟩
      have hla2 := lk2.keepT hT hs _ _ hla
      have dg : ∀ {G : Hp}, G d = some (.dK kvs) → DGet G d (.int (t : Int)) (some (.ref la)) := fun {G} e => by
        have := DGet.k (k := Sum.inl (t : Int)) e
        rw [hva] at this
        exact this
      refine ⟨_, rfl, _, rfl, d, _, rfl, dg hd2, !(nl ls).isEmpty, .inr (.inl ⟨_, SqT.of hla2, rfl⟩), ?_⟩
      cases hls : ls with
      | nil =>
        rw [hls] at hgo
        have hgo2 : go es bs m (n + 1) tl = (none, 1) := hgo
        rw [hgo2] at q1
        refine iteT ⟨_, rfl, rfl, fun a Ha sa ha => ⟨rfl, fun b Hb sb hb => q1 hz Hb (.ref b) (lk2.same (Same.trans sa sb)) (sb _ _ (sa _ _ hs2)) (ResAt.of_case (by rw [hgo2]) ⟨b, .ref a, rfl, hb, t, [], a, by rw [hbest, hls], rfl, .inl ⟨rfl, sb _ _ ha⟩⟩)⟩⟩
      | cons x0 xs0 =>
        rw [← hls]
        have hne2 : ls ≠ [] := by rw [hls]; exact List.cons_ne_nil _ _
        have hemp : (nl ls).isEmpty = false := by rw [hls]; rfl
        rw [hemp]
        refine iteF ⟨Nat.zero_le _, fun B hB => ?_⟩
        have sB : Same H2 (upd H2 B (.lst [])) := same_new hB
        have lkB : Lk Pt sf H (upd H2 B (.lst [])) := lk2.same sB
        have hB0 : ∀ {b : Addr} {o : HO}, H2 b = some o → b ≠ B := fun {b o} e z => by rw [z, hB] at e; cases e
        refine ⟨_, rfl, _, rfl, d, _, rfl, dg (sB _ _ hd2), la, rfl, ⟨_, SqT.of (sB _ _ hla2)⟩, ?_⟩
        refine for_tup (K := K) (a := la) (xs := nl ls) (fun i σ G => ∃ (v5 v6 : Option V) (brs : List V) (ki : Nat), σ = [some (.ref sf), some (.ref tq), some (.ref d), some (.int (t : Int)), some (.ref B), v5, v6] ∧ Lk Pt sf H G ∧ G sf = some (sfO cS dx l mo (k + ki)) ∧ k + ki ≤ mo ∧ G B = some (.lst brs) ∧ brs.length = i ∧
            (∀ (j x : Nat), j < i → ls[j]? = some x → ∃ (c : Addr) (y : V), brs[j]? = some (.ref c) ∧ G c = some (.tup [.int (x : Int), y]) ∧ CaseAt es bs m G n (tl.set t (some x)) y) ∧ br (go es bs m n) tl t ls 1 = br (go es bs m n) tl t (ls.drop i) ki)
          ⟨_, _, [], 1, rfl, lkB, sB _ _ hs2, hz, upd_same, rfl, fun j x hj => absurd hj (Nat.not_lt_zero _), rfl⟩ (fun i σ G _ ⟨_, _, _, _, _, lkG, _⟩ => SqT.of (lkG.keepT hT hs _ _ hla)) (fun i y σ G hx ⟨v5, v6, brs, ki, e, lkG, hsG, hki, hBG, hbl, hbr, hgi⟩ => ?_) (fun σ G ⟨v5, v6, brs, ki, e, lkG, hsG, hki, hBG, hbl, hbr, hgi⟩ => ?_)
        · subst e
          obtain ⟨x, hy, rfl⟩ := nl_at hx
          have hdr := drop_at hy
          rw [hdr] at hgi
          have htl2 : (tv tl).length = tl.length := by unfold tv; rw [List.length_map]
          have htqG := lkG.keepT hT hs _ _ htq
          have hdG : G d = some (.dK kvs) := lkG.ok hT hs hd (fun _ => by simp) fun _ _ _ => by simp
          refine ⟨_, rfl, sf, dx, _, rfl, hsG, rfl, ?_⟩
          refine ⟨_, rfl, _, rfl, _, rfl, tq, _, rfl, SqT.of htqG, ?_, fun p1 hp1 => ?_⟩
          · rw [HT.sIx_none, HT.sIx_nat, htl2, Nat.min_eq_left (Nat.le_of_lt b2)]
            omega
          have sp1 : Same G (upd G p1 (.tup (cutV (tv tl) none (some (t : Int))))) := same_new hp1
          have hl40 := hes
          refine ⟨_, rfl, rfl, fun p2 G2 s2 h2 => ⟨p1, p2, _, _, rfl, rfl, s2 _ _ upd_same, h2, ?_, fun p3 G3 s3 h3 => ?_⟩⟩
          · have := cutV_length (tv tl) none (some (t : Int))
            simp only [List.length_cons, List.length_nil]
            omega
          have sG3 : Same G G3 := Same.trans sp1 (Same.trans s2 s3)
          refine ⟨_, rfl, _, rfl, _, _, rfl, rfl, _, rfl, tq, _, rfl, SqT.of (sG3 _ _ htqG), ?_, fun p4 hp4 => ?_⟩
          · rw [show ((t : Int) + 1) = ((t + 1 : Nat) : Int) from rfl, HT.sIx_nat, htl2, Nat.min_eq_left b2]
            omega
          have sp4 : Same G3 (upd G3 p4 (.tup (cutV (tv tl) (some ((t : Int) + 1)) none))) := same_new hp4
          refine ⟨p3, p4, _, _, rfl, rfl, sp4 _ _ h3, upd_same, ?_, fun p5 G5 s5 h5 => ?_⟩
          · have := cutV_length (tv tl) none (some (t : Int))
            have := cutV_length (tv tl) (some ((t : Int) + 1)) none
            simp only [List.length_append, List.length_cons, List.length_nil]
            omega
          rw [cut_set b2] at h5
          have sG5 : Same G G5 := Same.trans sG3 (Same.trans sp4 s5)
          have lk5 := lkG.same sG5
          have L5 := L.keep (lk5.keepT hT hs)
          refine ⟨_, rfl, sf, dx, _, rfl, sG5 _ _ hsG, rfl, _, rfl, _, rfl, _, rfl, sf, d, dx, l, t, x, _, kvs, lfs es bs m tl, es, rfl, sG5 _ _ hsG, rfl, lk5.nrs hT hs N, hes, by rw [← htl]; exact b2, sG5 _ _ hdG, L5, lfs_nd es bs m tl, ?_, lfs_le hm, ⟨_, best_mem hbest, rfl⟩, fun G6 d6 kv6 s6 h6 L6 => ?_⟩
          · rw [lfs_len]
            have := bare_le tl
            omega
          rw [nar_lfs htl b2 b3] at L6
          have sG6 : Same G G6 := Same.trans sG5 s6
          have lk6 := lkG.same sG6
          obtain ⟨r, kx, hg⟩ : ∃ r kx, go es bs m n (tl.set t (some x)) = (r, kx) := ⟨_, _, rfl⟩
          have hcut : ∀ {G' : Hp}, Lk Pt sf G6 G' → Lk Pt sf H G' := fun a => lk6.trans a
          refine ⟨sf, p5, d6, dx, l, k + ki, mo, tl.set t (some x), kv6, rfl, sG6 _ _ hsG, lk6.nrs hT hs N, hes, hm, s6 _ _ h5, by rw [List.length_set]; exact htl, h6, L6, by have := bare_len (x := x) b1; omega, lk6.tab, fun hle G7 v lk7 hs7 r7 => ?_, fun hgt G7 dx7 lk7 hdx7 => ?_⟩
          · rw [hg] at hle hs7
            have hs7' : G7 sf = some (sfO cS dx l mo (k + (ki + kx))) := by rw [← Nat.add_assoc]; exact hs7
            cases r with
            | some r =>
              obtain ⟨a, b, rfl, ha, hb7⟩ := r7.full (by rw [hg])
              rw [br_some hg] at hgi
              rw [hgo, hgi] at q1
              refine ⟨_, rfl, a, _, _, _, rfl, rfl, SqT.of ha, rfl, rfl, _, rfl, iteT ⟨_, rfl, q1 (by omega) G7 _ (lk6.trans lk7) hs7' (ResAt.of_full (r := r) (by rw [hgo, hgi]) ⟨a, b, rfl, ha, hb7⟩)⟩⟩
            | none =>
              obtain ⟨a, y, rfl, ha, hc7⟩ := r7.case (by rw [hg])
              rw [br_none hg] at hgi
              have hT6 := lk6.tab
              have hs6 := sG6 _ _ hsG
              have hB7 : G7 B = some (.lst brs) := lk7.ok hT6 hs6 (sG6 _ _ hBG) (fun _ => by simp) fun _ _ _ => by simp
              refine ⟨_, rfl, a, _, _, _, rfl, rfl, SqT.of ha, rfl, rfl, _, rfl, iteF ?_⟩
              refine ⟨_, rfl, .inl ⟨rfl, _, SqL.of hB7⟩, _, rfl, _, rfl, a, _, _, _, rfl, rfl, SqT.of ha, rfl, rfl, fun p8 G8 s8 h8 => ?_⟩
              have hB8 := s8 _ _ hB7
              refine ⟨B, brs, _, rfl, rfl, hB8, ?_, ?_⟩
              · have hi := (List.getElem?_eq_some_iff.mp hy).1
                have h1 := lft_len es bs m tl t
                rw [← b4] at h1
                exact Nat.lt_of_lt_of_le (show brs.length < 1001 by omega) (leMil (by decide))
              · have lk8 : Lk Pt sf H (upd G8 B (.lst (brs ++ [.ref p8]))) := by
                  have lk8' := (lk6.trans lk7).same s8
                  have hBP : B ≠ Pt := fun z => by
                    obtain ⟨ps, h⟩ := TabI.tbl lk8'.tab (show G8 Pt = some _ by rw [← z]; exact hB8)
                    cases h
                  refine ⟨fun b o h1 h2 e => ?_, ?_⟩
                  · have h3 := lk2.keep b o h1 h2 e
                    rw [upd_ne (hB0 h3)]
                    exact lk8'.keep b o h1 h2 e
                  · rcases lk8'.tab with t | ⟨c', t1, t2⟩
                    · exact .inl (by rw [upd_ne (Ne.symm hBP)]; exact t)
                    · exact .inr ⟨c', by rw [upd_ne (Ne.symm hBP)]; exact t1, by rw [upd_ne fun z => by rw [z, hB8] at t2; cases t2]; exact t2⟩
                have kt : KeepT G8 (upd G8 B (.lst (brs ++ [.ref p8]))) := fun b xs e => by
                  rw [upd_ne fun z => by rw [z, hB8] at e; cases e]
                  exact e
                have kt7 : KeepT G7 (upd G8 B (.lst (brs ++ [.ref p8]))) := fun b xs e => kt _ _ (s8 _ _ e)
                have ktG : KeepT G (upd G8 B (.lst (brs ++ [.ref p8]))) := fun b xs e => kt7 _ _ (lk7.keepT hT6 hs6 _ _ (sG6 _ _ e))
                refine ⟨_, _, _, ki + kx, rfl, lk8, ?_, by omega, upd_same, by rw [List.length_append, hbl]; rfl, fun j z hj hzj => ?_, hgi⟩
                · rw [upd_ne fun z => by rw [← z, s8 _ _ hs7'] at hB8; cases hB8]
                  exact s8 _ _ hs7'
                · by_cases hji : j < i
                  · obtain ⟨c1, y1, g1, g2, g3⟩ := hbr j z hji hzj
                    exact ⟨c1, y1, by rw [List.getElem?_append_left (by omega)]; exact g1, ktG _ _ g2, g3.keep ktG⟩
                  · have e2 : j = i := by omega
                    subst e2
                    rw [hy] at hzj
                    cases hzj
                    exact ⟨p8, y, by rw [List.getElem?_append_right (by omega), hbl, Nat.sub_self]; rfl, kt _ _ h8, hc7.keep kt7⟩
          · rw [hg] at hgt
            refine q2 ?_ G7 dx7 (lk6.trans lk7) hdx7
            rw [hgo, hgi]
            have hge : ki + kx ≤ (br (go es bs m n) tl t (x :: ls.drop (i + 1)) ki).2 := by
              cases r with
              | none => rw [br_none hg]; exact br_le _ _
              | some r => rw [br_some hg]; exact Nat.le_refl _
            omega
        · subst e
          rw [nl_len] at hbl hbr hgi
          rw [List.drop_length] at hgi
          have hgn : go es bs m (n + 1) tl = (none, ki) := by rw [hgo, hgi]; rfl
          rw [hgn] at q1
          refine ⟨_, rfl, _, rfl, B, brs, rfl, .inl hBG, fun p1 G1 s1 h1 => ⟨rfl, fun p2 G2 s2 h2 => ⟨rfl, fun p3 G3 s3 h3 => ?_⟩⟩⟩
          have sG3 : Same G G3 := Same.trans s1 (Same.trans s2 s3)
          refine q1 hki G3 (.ref p3) (lkG.same sG3) (sG3 _ _ hsG) (ResAt.of_case (by rw [hgn]) ⟨p3, .ref p2, rfl, h3, t, ls, p2, hbest, rfl, .inr ⟨hne2, p1, brs, s3 _ _ h2, s3 _ _ (s2 _ _ h1), hbl, fun i x hx => ?_⟩⟩)
          obtain ⟨c1, y1, g1, g2, g3⟩ := hbr i x (List.getElem?_eq_some_iff.mp hx).1 hx
          exact ⟨c1, y1, g1, sG3 _ _ g2, g3.keep (Same.keepT sG3)⟩
theorem ok_look {f : Addr} {fd : FuncData} (F : FunC K "look" "Search.look" sLk f fd c) (T : Bi mg) (S : SrC K cS) (G : Grt P w K mg base cT) (hbm : BM mg base) (hC : PySem.W.codeHdIn K c Pt = true) (hM : Meth K cS "look" f) (bL : L2.Binds K fd ["self", "tints", "left"] [])
    (MN : MeE P w K mg base cS "narrowed" ["self", "left", "tie", "tint"] 1 (spNr cS)) (es : List (Nat × Nat)) (bs : List (List Nat)) (m : Nat) : ∀ n, FnOk P w K mg base (RX.CXe P w) (n + 5) f fd ["self", "tints", "left"] (spLook cS cT Pt es bs m n)
  | 0 => ok_look0 F T S G es bs m
  | n + 1 => ok_lookS F T S G hbm hC hM bL MN es bs m n (ok_look F T S G hbm hC hM bL MN es bs m n)
end
end My
set_option Elab.async false
set_option linter.all false
set_option maxRecDepth 100000
set_option maxHeartbeats 1000000
namespace L2
open PySem PyProof.Rows
structure FunD (K : PySem.W.Frag) (x qual : Str) (st : Stmt) (f : Addr) (fd : FuncData) : Prop where
  ex : ∃ (oc : Value) (od : Option Addr) (dV kV doc pm : Value) (an : Option Addr) (cdv ct : Value) (osl : Array (Option Value)),
    fd = PySem.W.fnOf x qual (defArgs st) (defBody st) (defScope st) dV kV doc pm an cdv ct ∧ K.lookup f = some ⟨oc, od, .func fd, osl⟩ ∧ PySem.W.codeIn K cdv qual = true
section
variable {P : Program} {w : World} {K : PySem.W.Frag} {mg : Str → Option Value} {base : Heap} {k : Nat} {f : Addr} {fd : FuncData} {ps : List Str} {sp sp' : Sp}
theorem FunD.okX {x qual : Str} {st : Stmt} {N : List Str} (F : FunD K x qual st f fd) (S : FnScope N ps (defScope st)) (len : ∀ vs H Q E, sp vs H Q E → vs.length = ps.length)
    (hbody : ∀ (cdv : Value) (A : Around) (outer : List Env) (s : Shared) (H : Hp) (vs : List V) (Q : VK) (E : XK), Room k (A.deeper (envOfC qual (defScope st) s.heap.objs.size f cdv)) → sp vs H Q E →
      ∃ t, PSs (cxOf (RX.CXe P w) P w K mg base N qual (defScope st) f cdv A outer s H E) (defBody st) t ∧ t { nx := fun _ H' => Q .non H', rt := Q } (start N vs) H) : FnOk P w K mg base (RX.CXe P w) (k + 1) f fd ps sp := by
  obtain ⟨oc, od, dV, kV, doc, pm, an, cdv, ct, osl, rfl, lk, hcd⟩ := F.ex
  exact fn_of lk hcd S len fun A outer s H vs Q E hr hsp => hbody cdv A outer s H vs Q E hr hsp
end
end L2
namespace My
open PySem L2 Cs
theorem LfR.snoc {H : Hp} {kvs : List (Key × V)} {lf : List (Nat × List Nat)} (h : LfR H kvs lf) {n : Nat} {ls : List Nat} {a : Addr} (e : H a = some (.tup (nl ls))) : LfR H (kvs ++ [(Sum.inl (n : Int), .ref a)]) (lf ++ [(n, ls)]) := by
  induction h with
  | nil => exact .cons e .nil
  | cons e' _ ih => exact .cons e' ih
theorem bare_rep (n : Nat) : bare (List.replicate n none) = List.range n := by
  unfold bare
  rw [List.length_replicate]
  refine List.filter_eq_self.mpr fun k hk => ?_
  rw [List.getD_eq_getElem?_getD, List.getElem?_replicate]
  split <;> rfl
theorem lft_rep (es : List (Nat × Nat)) (bs : List (List Nat)) (m n k : Nat) : lft es bs m (List.replicate n none) k = nbTo (bs.getD k []) m := by
  unfold lft nbTo
  refine List.filter_congr fun x _ => ?_
  have : tak es (List.replicate n none) k x = false := by
    cases h : tak es (List.replicate n none) k x with
    | false => rfl
    | true =>
      obtain ⟨j, _, _, h2⟩ := tak_iff.mp h
      rw [List.getD_eq_getElem?_getD, List.getElem?_replicate] at h2
      split at h2 <;> cases h2
  rw [this]
  simp
def lfB (bs : List (List Nat)) (m i : Nat) : List (Nat × List Nat) := (List.range i).map fun k => (k, nbTo (bs.getD k []) m)
theorem lfB_succ (bs : List (List Nat)) (m i : Nat) : lfB bs m (i + 1) = lfB bs m i ++ [(i, nbTo (bs.getD i []) m)] := by unfold lfB; rw [List.range_succ, List.map_append]; rfl
theorem lfs_rep (es : List (Nat × Nat)) (bs : List (List Nat)) (m n : Nat) : lfs es bs m (List.replicate n none) = lfB bs m n := by
  unfold lfs lfB
  rw [bare_rep]
  exact List.map_congr_left fun k _ => by rw [lft_rep]
theorem lfB_keys (bs : List (List Nat)) (m i : Nat) : ((lfB bs m i).map fun p => p.1) = List.range i := by
  unfold lfB
  rw [List.map_map]
  show (List.range i).map (fun k => k) = _
  rw [List.map_id']
theorem rep_tv (k : Nat) : (List.replicate k ([.non] : List V)).flatten = tv (List.replicate k none) := by
  induction k with
  | zero => rfl
  | succ k ih => rw [List.replicate_succ, List.flatten_cons, ih]; rfl
theorem rep_ref (k : Nat) (a : Addr) : (List.replicate k ([.ref a] : List V)).flatten = List.replicate k (.ref a) := by
  induction k with
  | zero => rfl
  | succ k ih => rw [List.replicate_succ, List.flatten_cons, ih]; rfl
def RowsV (H : Hp) (r : Addr) (bs : List (List Nat)) : Prop := ∃ rs, H r = some (.tup rs) ∧ rs.length = bs.length ∧ ∀ i, i < bs.length → ∃ a, rs[i]? = some (.ref a) ∧ H a = some (.tup (nl (bs.getD i [])))
theorem RowsV.keep {H H' : Hp} {r : Addr} {bs : List (List Nat)} (h : RowsV H r bs) (k : KeepT H H') : RowsV H' r bs := let ⟨rs, a, b, c⟩ := h; ⟨rs, k _ _ a, b, fun i hi => let ⟨d, e, f⟩ := c i hi; ⟨d, e, k _ _ f⟩⟩
def Rows (H : Hp) (bv : V) (bs : List (List Nat)) : Prop := (bv = .non ∧ ∀ b ∈ bs, b = []) ∨ ∃ r, bv = .ref r ∧ RowsV H r bs
theorem Rows.keep {H H' : Hp} {bv : V} {bs : List (List Nat)} (h : Rows H bv bs) (k : KeepT H H') : Rows H' bv bs := h.elim .inl fun ⟨r, e, h⟩ => .inr ⟨r, e, h.keep k⟩
def num (es : List (Nat × Nat)) (bs : List (List Nat)) (m : Nat) : Nat := (go es bs m es.length (List.replicate es.length none)).2
abbrev ResS (es : List (Nat × Nat)) (bs : List (List Nat)) (m : Nat) (H : Hp) (v : V) : Prop := ResAt es bs m H es.length (List.replicate es.length none) v
section
variable {P : Program} {w : World} {K : PySem.W.Frag} {mg : Str → Option Value} {base : Heap} {cS cT Pt c : Addr}
abbrev sSe : Stmt := top 12
abbrev nSe : List Str := ["net", "many", "barred", "most", "ties", "rows", "left"]
abbrev seS : Scope := clsE (retE (stOf 12 3))
theorem scSe : FnScope nSe ["net", "many", "barred", "most"] (defScope sSe) := ⟨rfl, rfl, rfl, by decide +kernel, rfl, by decide +kernel, by decide +kernel⟩
theorem ndSe : (["tie", "row", "many"] : List Str).Nodup := by decide +kernel
theorem blkSe {f : Addr} {cdv : Value} {A : Around} {outer : List Env} {s : Shared} {H : Hp} {E : XK} :
    Blk (cxOf (RX.CXe P w) P w K mg base nSe "search" (defScope sSe) f cdv A outer s H E).nox seS [("many", s.heap.objs.size + 1)] ["tie", "row", "many"] [none, none, some 1] := by
  refine ⟨rfl, rfl, by decide +kernel, by decide +kernel, fun p hp => ?_, fun y hy e => ?_, ⟨rfl, rfl, rfl⟩, trivial⟩
  · rw [List.mem_singleton.mp hp]
    rfl
  · have hy' : y ∈ [((PySem.Str.ofString ".0" : Str), NameKind.local), (PySem.Str.ofString "tie", .local), (PySem.Str.ofString "row", .local), (PySem.Str.ofString "not_barred", .globalImplicit), (PySem.Str.ofString "many", .free)] := hy
    simp only [List.mem_cons, List.not_mem_nil, or_false] at hy'
    rcases hy' with rfl | rfl | rfl | rfl | rfl <;> first | rfl | cases e
def spSe (cT Pt : Addr) : Sp := fun vs H Q E => ∃ (p : Addr) (n : Nat) (q : Addr) (ts : List V) (es : List (Nat × Nat)) (m mo : Nat) (bv : V) (bs : List (List Nat)), vs = [.ref p, .int (m : Int), bv, .int (mo : Int)] ∧ NetZ H p n q ts es ∧ m ≤ 1000 ∧ bs.length = es.length ∧ (∀ b ∈ bs, b.length ≤ 1000) ∧ Rows H bv bs ∧ TabL Pt H ∧
  (40 < es.length → ∀ H' dx, Same H H' → H' dx = none → E (.ref cT) (some dx) (upd H' dx (.xd [("most", .int 40)]))) ∧
  (es.length ≤ 40 → (num es bs m ≤ mo → ∀ H' v, Gr Pt lpos lqual H H' → ResS es bs m H' v → Q v H') ∧ (mo < num es bs m → ∀ H' dx, Gr Pt lpos lqual H H' → H' dx = none → E (.ref cT) (some dx) (upd H' dx (.xd [("most", .int (mo : Int))]))))
theorem ok_se {f fi fl : Addr} {fd fdi fdl : FuncData} {t40 : Tok} (F : FunD K "search" "search" sSe f fd) (T : Bi mg) (hen : mg "enumerate" = none) (S : SrC K cS) (G : Grt P w K mg base cT) (m40 : mg "MOST_SEARCH_TIES" = some (.int 40 t40)) (hcS : mg "Search" = some (.ref cS)) (M : Mk K cS fi)
    (FI : FnOk P w K mg base CX0 2 fi fdi ["self", "net", "most"] (spIn cS)) (bI : L2.Binds K fdi ["self", "net", "most"] []) (FB : FnE P w K mg base "not_barred" ["many", "row"] 1 spNb)
    (hM : Meth K cS "look" fl) (bL : L2.Binds K fdl ["self", "tints", "left"] []) (FL : ∀ es bs m n, FnOk P w K mg base (RX.CXe P w) (n + 5) fl fdl ["self", "tints", "left"] (spLook cS cT Pt es bs m n)) :
    FnOk P w K mg base (RX.CXe P w) 46 f fd ["net", "many", "barred", "most"] (spSe cT Pt) := by
  refine F.okX (k := 45) scSe (fun vs H Q E h => ?_) (fun cdv A outer s H vs Q E hr h => ?_)
  · obtain ⟨p, n, q, ts, es, m, mo, bv, bs, rfl, _⟩ := h
    rfl
  · obtain ⟨p, n, qa, ts, es, m, mo, bv, bs, rfl, N, hm, hbl, hb1, R, hT, qx, qn⟩ := h
    obtain ⟨D, fI, fdI, xc, hi, hfn, FX, bX⟩ := G.ex
    have hr1 : Room 1 _ := hr.mono (by omega)
    have hr3 : Room 3 _ := hr.mono (by omega)
    have hlen := N.len
    have hl200 := N.l200
    by_cases h40 : 40 < es.length
    · refine ⟨_, pss_cons (PS.nox (ps_set (i := 4) scSe.nd rfl (Or.inl rfl) (pe_callB call_len_seq rfl T.len bLen (pa_c (pe_ix ix_tup (pv 0) pe_int (fun _ _ => rfl)) pa_nil))))
        (pss_cons (ps_if (PT.nox (pt_cmpR op_gt (pv 4) (pe_glob (v := .int 40) rfl m40 ⟨_, rfl⟩) (nomark _))) (pss_one (RX.ps_raiseF xc hi hfn (FX.mono (j := 1) (k := 44) (by omega)) hr bX rfl G.at_ (pa_c (pe_glob (v := .int 40) rfl m40 ⟨_, rfl⟩) pa_nil) rfl rfl rfl (fun _ _ h => h))) pss_nil)
        pss_never), ?_⟩
      refine ⟨_, rfl, p, _, _, _, rfl, rfl, SqT.of N.e1, rfl, qa, ts, rfl, .inr (SqT.of N.e2), ?_⟩
      refine ⟨_, rfl, _, _, rfl, rfl, _, rfl, ?_⟩
      refine ite2 (fun _ => ⟨_, rfl, fun dx hdx => qx h40 H dx (Same.refl H) hdx⟩) (fun z => absurd (decide_eq_true (by omega)) z)
    · obtain ⟨qn1, qn2⟩ := qn (by omega)
      obtain ⟨t, ht, hq⟩ : ∃ t, PSs (cxOf (RX.CXe P w) P w K mg base nSe "search" (defScope sSe) f cdv A outer s H E) ((defBody sSe).drop 3) t ∧ ∀ (G : Hp) (r : Addr), Same H G → RowsV G r bs → t { nx := fun _ H' => Q .non H', rt := Q } [some (.ref p), some (.int (m : Int)), some bv, some (.int (mo : Int)), some (.int (es.length : Int)), some (.ref r), none] G := by
        refine ⟨_, pss_cons (PS.nox (ps_set (i := 6) scSe.nd rfl (Or.inl rfl) (pe_callTy (call_dictP hr) rfl T.dict bDict (pa_c (pe_lcE blkSe rfl rfl hen (pa_c (pv 5) pa_nil) (monoA_cons (mono_var 5) monoA_nil) rfl
            (fun C fp s H => pg_tupK (K := K) (n := 2) rfl rfl (@pgs_cons _ _ _ _ _ (pg_name (i := 0) ndSe rfl (Or.inl rfl) (hf := Or.inr rfl)) (@pgs_cons _ _ _ _ _ (pg_name (i := 1) ndSe rfl (Or.inl rfl) (hf := Or.inr rfl)) pgs_nil rfl) rfl) rfl rfl)
            (fun C fp s H => pts_nil) (fun C fp s H => pe_tupS (pa_c (pv 0) (pa_c (pe_fc FB hr1 (pa_c (pv 2) (pa_c (pv 1) pa_nil))) pa_nil)))) pa_nil))))
          (pss_one (ps_ret (pe_meth (pe_make M FI hr3 rfl hcS bI .nil pass0 (pa_c (pv 0) (pa_c (pv 3) pa_nil))) S.cl hM ((FL es bs m es.length).mono (k := 45) (by omega)) hr bL .nil (RX.passX fun _ _ _ z => z)
            (pa_c (pe_op op_repA (pe_tupS (pa_c pe_non pa_nil)) (pv 4)) (pa_c (pv 6) pa_nil))))), fun G r sG RG => ?_⟩
        obtain ⟨rs, hr0, hrl, hra⟩ := RG
        refine ⟨_, rfl, r, rs, rfl, SqT.of hr0, by omega, fun i ys σ G' => Same G G' ∧ (∃ ps, Prs G' ys ps ∧ LfR G' ps (lfB bs m i)) ∧ ∃ v0 v1, σ = [v0, v1, some (.int (m : Int))], ⟨Same.refl G, ⟨[], ⟨rfl, fun i y pr e => by cases e⟩, .nil⟩, none, none, rfl⟩, fun i ys σ G' hi ⟨e1, ⟨ps, e2, e4⟩, _⟩ => ?_, fun i x ys σ G1 hx ⟨e1, ⟨ps, e2, e4⟩, v0, v1, e3⟩ Tt G2 s2 hT2 => ?_, fun ys σ G1 ⟨e1, ⟨ps, e2, e4⟩, _⟩ l G2 s2 hl => ?_⟩
        · refine ⟨SqT.of (e1 _ _ hr0), ?_⟩
          rw [e2.1, e4.len]
          unfold lfB
          rw [List.length_map, List.length_range]
          exact Nat.le_refl _
        · subst e3
          have hi : i < bs.length := by have := (List.getElem?_eq_some_iff.mp hx).1; omega
          obtain ⟨a, ha1, ha2⟩ := hra i hi
          rw [hx] at ha1
          cases ha1
          have ha3 := s2 _ _ (e1 _ _ ha2)
          have hmem : bs.getD i [] ∈ bs := by rw [List.getD_eq_getElem?_getD, List.getElem?_eq_getElem hi]; exact List.getElem_mem hi
          refine ⟨Tt, _, rfl, SqT.of hT2, rfl, _, _, rfl, _, _, rfl, rfl, ?_⟩
          refine ⟨_, rfl, _, rfl, _, rfl, m, a, _, rfl, ha3, hm, hb1 _ hmem, fun G3 t3 s3 h3 => ⟨rfl, fun b G4 s4 hb => ⟨Same.trans e1 (Same.trans s2 (Same.trans s3 s4)), ⟨ps ++ [(Sum.inl (i : Int), .ref t3)], ?_, ?_⟩, _, _, rfl⟩⟩⟩
          · exact (e2.same (Same.trans s2 (Same.trans s3 s4))).snoc (k := Sum.inl (i : Int)) hb
          · rw [lfB_succ]
            exact (e4.keep (Same.keepT (Same.trans s2 (Same.trans s3 s4)))).snoc (s4 _ _ h3)
        · have e5 := e2.same s2
          have e6 := e4.keep (Same.keepT s2)
          rw [hrl] at e6
          have hpl := e6.len
          have hll : (lfB bs m bs.length).length = bs.length := by unfold lfB; rw [List.length_map, List.length_range]
          refine ⟨l, ys, ps, rfl, SqL.of hl, e5.1, by rw [e5.1]; omega, e5.2, fun d G3 s3 hdn hd => ?_⟩
          rw [fromPairsK_nd (by
            rw [e6.keys]
            have := lfB_keys bs m bs.length
            have e : ((lfB bs m bs.length).map fun p => (p.1 : Int)) = (List.range bs.length).map fun k : Nat => (k : Int) := by rw [← this, List.map_map]; rfl
            rw [e, List.map_map, List.nodup_iff_pairwise_ne, List.pairwise_map]
            refine (List.nodup_iff_pairwise_ne.mp List.nodup_range).imp fun {a b} h z => h ?_
            have h2 : (a : Int) = (b : Int) := Sum.inl.inj z
            omega)] at hd
          have sG3 : Same H G3 := Same.trans sG (Same.trans e1 (Same.trans s2 s3))
          have N3 := N.same sG3
          refine ⟨_, rfl, _, rfl, fun sf dx hsf hdx hne => ?_⟩
          have s4a : Same G3 (upd G3 dx (.own sf)) := same_new hdx
          have s4 : Same G3 (upd (upd G3 dx (.own sf)) sf (.ins cS dx [])) := Same.trans s4a (same_new (by rw [upd_ne (Ne.symm hne)]; exact hsf))
          refine ⟨sf, p, dx, (mo : Int), n, qa, ts, es, rfl, upd_same, N3.same s4, fun G5 l5 ok5 hs5 N5 => ⟨rfl, sf, dx, _, rfl, hs5, rfl, rfl, fun b G6 s6 hb => ⟨_, rfl, b, es.length, [.non], rfl, rfl, hb, by omega, by simp, by simp only [List.length_cons, List.length_nil]; omega, fun tq G7 s7 h7 => ?_⟩⟩⟩
          rw [rep_tv] at h7
          have ok3 : ∀ b o, G3 b = some o → G5 b = some o := fun b o e => ok5 b o (fun z => by rw [z, hsf] at e; cases e) (s4 _ _ e)
          have s37 : Same G3 G7 := fun b o e => s7 _ _ (s6 _ _ (ok3 b o e))
          have s57 : Same G5 G7 := Same.trans s6 s7
          have sH7 : Same H G7 := Same.trans sG3 s37
          have hsH : H sf = none := Same.none sG3 hsf
          have N7 : Nrs G7 l5 es := N5.same fun b o e _ => s57 _ _ e
          have gr : ∀ {H' : Hp}, Lk Pt sf G7 H' → Gr Pt lpos lqual H H' := fun {H'} a => ⟨fun b o e hb => a.keep b o hb (fun z => by rw [z, hsH] at e; cases e) (sH7 _ _ e), a.tab⟩
          have L7 : LfR G7 ps (lfs es bs m (List.replicate es.length none)) := by
            rw [lfs_rep, ← hbl]
            exact (e6.keep (Same.keepT s3)).keep (Same.keepT s37)
          refine ⟨_, rfl, sf, tq, d, dx, l5, 0, mo, List.replicate es.length none, ps, rfl, s57 _ _ hs5, N7, hl200, hm, h7, List.length_replicate .., s37 _ _ hd, L7, by rw [bare_rep, List.length_range]; exact Nat.le_refl _, hT.same sH7, fun hle H' v lk hs' rr => ?_, fun hgt H' dx' lk hdx' => ?_⟩
          · rw [Nat.zero_add] at hle
            exact qn1 hle H' v (gr lk) rr
          · rw [Nat.zero_add] at hgt
            exact qn2 hgt H' dx' (gr lk) hdx'
      refine ⟨_, pss_cons (PS.nox (ps_set (i := 4) scSe.nd rfl (Or.inl rfl) (pe_callB call_len_seq rfl T.len bLen (pa_c (pe_ix ix_tup (pv 0) pe_int (fun _ _ => rfl)) pa_nil))))
        (pss_cons (ps_if (PT.nox (pt_cmpR op_gt (pv 4) (pe_glob (v := .int 40) rfl m40 ⟨_, rfl⟩) (nomark _))) pss_never pss_nil)
        (pss_cons (PS.nox (ps_set (i := 5) scSe.nd rfl (Or.inl rfl) (pe_ifExp (pt_cmpR op_isN (pv 2) pe_non (nomark _)) (pe_op op_repA (pe_tupS (pa_c (pe_tupS pa_nil) pa_nil)) (pv 4)) (pv 2)))) ht)), ?_⟩
      refine ⟨_, rfl, p, _, _, _, rfl, rfl, SqT.of N.e1, rfl, qa, ts, rfl, .inr (SqT.of N.e2), ?_⟩
      rw [hlen]
      refine ⟨_, rfl, _, _, rfl, rfl, _, rfl, ?_⟩
      refine ite2 (fun z => absurd (of_decide_eq_true z) (by omega)) (fun _ => ?_)
      rcases R with ⟨rfl, hbs⟩ | ⟨r, rfl, RV⟩
      · refine ⟨_, rfl, rfl, _, rfl, iteT ⟨rfl, fun a G1 s1 h1 => ⟨rfl, fun b G2 s2 h2 => ⟨_, rfl, b, es.length, [.ref a], rfl, rfl, h2, by omega, by simp, by simp only [List.length_cons, List.length_nil]; omega, fun r G3 s3 h3 => hq G3 r (Same.trans s1 (Same.trans s2 s3)) ⟨_, h3, ?_, fun i hi => ⟨a, ?_, ?_⟩⟩⟩⟩⟩⟩
        · rw [rep_ref, List.length_replicate, hbl]
        · rw [rep_ref, List.getElem?_replicate, if_pos (by omega)]
        · rw [hbs (bs.getD i []) (by rw [List.getD_eq_getElem?_getD, List.getElem?_eq_getElem hi]; exact List.getElem_mem hi)]
          exact s3 _ _ (s2 _ _ h1)
      · exact ⟨_, rfl, rfl, _, rfl, iteF ⟨_, rfl, hq H r (Same.refl H) RV⟩⟩
end
end My
set_option Elab.async false
set_option linter.all false
set_option maxRecDepth 100000
set_option maxHeartbeats 1000000
namespace My
open PySem L2 Cs
def RowsL (H : Hp) (rs : List V) (bs : List (List Nat)) : Prop := rs.length = bs.length ∧ ∀ i, i < bs.length → ∃ a, rs[i]? = some (.ref a) ∧ H a = some (.tup (nl (bs.getD i [])))
theorem RowsL.keep {H H' : Hp} {rs : List V} {bs : List (List Nat)} (h : RowsL H rs bs) (k : KeepT H H') : RowsL H' rs bs := ⟨h.1, fun i hi => let ⟨a, b, c⟩ := h.2 i hi; ⟨a, b, k _ _ c⟩⟩
theorem RowsL.snoc {H : Hp} {rs : List V} {bs : List (List Nat)} {a : Addr} {b : List Nat} (h : RowsL H rs bs) (e : H a = some (.tup (nl b))) : RowsL H (rs ++ [.ref a]) (bs ++ [b]) := by
  refine ⟨by rw [List.length_append, List.length_append, h.1]; rfl, fun i hi => ?_⟩
  by_cases z : i < bs.length
  · obtain ⟨c, d, f⟩ := h.2 i z
    refine ⟨c, by rw [List.getElem?_append_left (by rw [h.1]; exact z)]; exact d, ?_⟩
    rw [f, List.getD_eq_getElem?_getD, List.getD_eq_getElem?_getD, List.getElem?_append_left z]
  · rw [List.length_append] at hi
    have e2 : i = bs.length := by simp only [List.length_cons, List.length_nil] at hi; omega
    subst e2
    refine ⟨a, by rw [← h.1, List.getElem?_append_right (Nat.le_refl _), Nat.sub_self]; rfl, ?_⟩
    rw [e, List.getD_eq_getElem?_getD, List.getElem?_append_right (Nat.le_refl _), Nat.sub_self]
    rfl
section
variable {P : Program} {w : World} {K : PySem.W.Frag} {mg : Str → Option Value} {base : Heap}
abbrev sTie : Stmt := top 15
abbrev nTie : List Str := ["_law_number", "_law_k", "_law_points", "_law_kind", "_law_one", "_law_other"]
def spTie : Sp := fun vs H Q _ => ∃ n k p kd : Int, vs = [.int n, .int k, .int p, .int kd] ∧ 0 ≤ n ∧ 0 ≤ k ∧ 2 ≤ p ∧ p ≤ 60 ∧
  ∀ (i j : Int) (t : Addr) (H' : Hp), 0 ≤ i → i < p → 0 ≤ j → j < p → i ≠ j → Same H H' → H' t = some (.tup [.int i, .int j]) → Q (.ref t) H'
theorem scTie : FnScope nTie ["_law_number", "_law_k", "_law_points", "_law_kind"] (defScope sTie) := ⟨rfl, rfl, rfl, by decide +kernel, rfl, by decide +kernel, by decide +kernel⟩
theorem ok_tie {f : Addr} {fd : FuncData} (F : Fun K "_law_tie" "_law_tie" sTie f fd) (T : Bi mg) : FnOk P w K mg base CX0 1 f fd ["_law_number", "_law_k", "_law_points", "_law_kind"] spTie := by
  refine F.ok scTie (fun vs H Q E h => ?_) (fun cdv A outer s H vs Q E hr h => ?_)
  · obtain ⟨n, k, p, kd, rfl, _⟩ := h
    rfl
  · obtain ⟨n, k, p, kd, rfl, n0, k0, p2, p60, q⟩ := h
    obtain ⟨t5, h5, r5w⟩ : ∃ t, PSs (cxOf CX0 P w K mg base nTie "_law_tie" (defScope sTie) f cdv A outer s H E).nox ((defBody sTie).drop 4) t ∧ ∀ (H1 : Hp), Same H H1 → ∀ (i j : Int), 0 ≤ i → i < p → 0 ≤ j → j < p → i ≠ j →
        t { nx := fun _ H' => Q .non H', rt := Q } [some (.int n), some (.int k), some (.int p), some (.int kd), some (.int i), some (.int j)] H1 := by
      refine ⟨_, pss_cons (ps_if (pt_cmpR op_eq (pe_op op_mod (pe_op op_fdiv (pv 0) pe_int) pe_int) pe_int (nomark _)) (pss_one (ps_ret (pe_tupS (pa_c (pv 5) (pa_c (pv 4) pa_nil))))) pss_nil) (pss_one (ps_ret (pe_tupS (pa_c (pv 4) (pa_c (pv 5) pa_nil))))), fun H1 sH1 i j i0 i1 j0 j1 ne => ?_⟩
      refine ⟨_, rfl, _, _, rfl, rfl, ⟨by decide, by decide⟩, _, _, rfl, rfl, (by show (0 : Int) < 2; decide), rfl, _, rfl, ?_⟩
      refine ite2 (fun _ => ?_) (fun _ => ?_)
      · exact ⟨_, rfl, _, rfl, rfl, fun t H' s' ht => q j i t H' j0 j1 i0 i1 (Ne.symm ne) (Same.trans sH1 s') ht⟩
      · exact ⟨_, rfl, _, rfl, rfl, fun t H' s' ht => q i j t H' i0 i1 j0 j1 ne (Same.trans sH1 s') ht⟩
    have r5 := r5w H (Same.refl H)
    have m1 := mod_lo (n := n / 64) (p := p - 1) (by omega)
    have m2 := mod_hi (n := n / 64) (p := p - 1) (by omega)
    obtain ⟨t3, h3, r3⟩ : ∃ t, PSs (cxOf CX0 P w K mg base nTie "_law_tie" (defScope sTie) f cdv A outer s H E).nox ((defBody sTie).drop 3) t ∧ ∀ (i j : Int), 0 ≤ i → i < p → 0 ≤ j → j < p → i ≠ j →
        t { nx := fun _ H' => Q .non H', rt := Q } [some (.int n), some (.int k), some (.int p), some (.int kd), some (.int i), some (.int j)] H := by
      refine ⟨_, pss_cons (ps_if (pt_cmpR op_eq (pv 3) pe_int (nomark _)) (pss_cons (ps_set (i := 4) scTie.nd rfl (Or.inl rfl) pe_int) (pss_one (ps_set (i := 5) scTie.nd rfl (Or.inl rfl) (pe_op op_add pe_int (pe_op op_mod (pe_op op_fdiv (pv 0) pe_int) (pe_op op_sub (pv 2) pe_int)))))) pss_nil) h5, fun i j i0 i1 j0 j1 ne => ?_⟩
      refine ⟨_, rfl, rfl, _, rfl, ?_⟩
      refine ite2 (fun _ => ?_) (fun _ => ?_)
      · exact ⟨_, rfl, _, _, rfl, rfl, ⟨by decide, by decide⟩, _, rfl, _, _, rfl, rfl, _, _, rfl, rfl, (by show (0 : Int) < p - 1; omega), _, _, rfl, rfl, r5 0 _ (by omega) (by omega) (by omega) (by omega) (by omega)⟩
      · exact r5 i j i0 i1 j0 j1 ne
    obtain ⟨t2, h2, r2⟩ : ∃ t, PSs (cxOf CX0 P w K mg base nTie "_law_tie" (defScope sTie) f cdv A outer s H E).nox ((defBody sTie).drop 2) t ∧ ∀ (i j : Int), 0 ≤ i → i < p → 0 ≤ j → j < p → i ≠ j →
        t { nx := fun _ H' => Q .non H', rt := Q } [some (.int n), some (.int k), some (.int p), some (.int kd), some (.int i), some (.int j)] H := by
      refine ⟨_, pss_cons (ps_if (PW.pt (pw_and (pt_cmpR op_eq (pv 3) pe_int (nomark _)) (pw_and1 (pt_cmpR op_lt (pv 1) (pv 2) (nomark _))))) (pss_cons (ps_set (i := 4) scTie.nd rfl (Or.inl rfl) (pv 1)) (pss_one (ps_set (i := 5) scTie.nd rfl (Or.inl rfl) (pe_op op_mod (pe_op op_add (pv 1) pe_int) (pv 2))))) pss_nil) h3, fun i j i0 i1 j0 j1 ne => ?_⟩
      refine ⟨_, rfl, rfl, _, rfl, ?_⟩
      refine ite2 (fun _ => ?_) (fun _ => ?_)
      · refine ⟨_, rfl, _, rfl, _, _, rfl, rfl, _, rfl, ?_⟩
        refine ite2 (fun hz => ?_) (fun _ => ?_)
        · have hk : k < p := of_decide_eq_true hz
          have e : k % p = k := Int.emod_eq_of_lt k0 hk
          refine ⟨_, rfl, ?_⟩
          refine ⟨_, rfl, _, _, rfl, rfl, _, rfl, _, _, rfl, rfl, (by show (0 : Int) < p; omega), r3 k _ k0 hk (mod_lo (by omega)) (mod_hi (by omega)) (fun z => next_ne (n := k) p2 (by rw [← z, e]))⟩
        · exact r3 i j i0 i1 j0 j1 ne
      · exact iteF (r3 i j i0 i1 j0 j1 ne)
    refine ⟨_, pss_cons (ps_set (i := 4) scTie.nd rfl (Or.inl rfl) (pe_op op_mod (pv 0) (pv 2)))
      (pss_cons (ps_set (i := 5) scTie.nd rfl (Or.inl rfl) (pe_op op_mod (pe_op op_add (pe_op op_add (pv 4) pe_int) (pe_op op_mod (pe_op op_fdiv (pv 0) pe_int) (pe_op op_sub (pv 2) pe_int))) (pv 2))) h2), ?_⟩
    have a1 := mod_lo (n := n) (p := p) (by omega)
    have a2 := mod_hi (n := n) (p := p) (by omega)
    refine ⟨_, rfl, _, rfl, _, _, rfl, rfl, (by show (0 : Int) < p; omega), ?_⟩
    refine ⟨_, rfl, _, _, rfl, rfl, _, rfl, _, _, rfl, rfl, ⟨by decide, by decide⟩, _, rfl, _, _, rfl, rfl, _, _, rfl, rfl, (by show (0 : Int) < p - 1; omega), _, _, rfl, rfl, _, rfl, _, _, rfl, rfl, (by show (0 : Int) < p; omega), ?_⟩
    have ne : n % p ≠ (n % p + 1 + n / 64 % (p - 1)) % p := fun z => by
      refine step_ne (a := n % p) (d := 1 + n / 64 % (p - 1)) (p := p) a1 a2 (by omega) (by omega) ?_
      rw [← Int.add_assoc]
      exact z.symm
    exact r2 _ _ a1 a2 (mod_lo (by omega)) (mod_hi (by omega)) ne
abbrev sNet : Stmt := top 16
abbrev netScope : Scope := compScope (retE (stOf 16 4))
abbrev nNet : List Str := ["_law_script", "_law_at", "_law_points", "_law_kind", "_law_many"]
abbrev nNetB : List Str := ["_law_k", "_law_at", "_law_kind", "_law_points", "_law_script"]
def spNet (K : PySem.W.Frag) : Sp := fun vs H Q _ => ∃ (a : Addr) (ns : List Int), vs = [.ref a, .int 8] ∧ SqL K H a (ns.map V.int) ∧ ns.length ≤ 63 ∧
  ∀ (H' : Hp) (p : Addr) (n : Nat) (q : Addr) (ts : List V) (es : List (Nat × Nat)), Same H H' → NetZ H' p n q ts es → 2 ≤ n → n ≤ 6 → es.length ≤ 9 → Q (.ref p) H'
theorem ndNet : nNetB.Nodup := by decide +kernel
theorem scNet : FnScope nNet ["_law_script", "_law_at"] (defScope sNet) := ⟨rfl, rfl, rfl, by decide +kernel, rfl, by decide +kernel, by decide +kernel⟩
theorem blkNet {f : Addr} {cdv : Value} {A : Around} {outer : List Env} {s : Shared} {H : Hp} {E : XK} :
    Blk (cxOf CX0 P w K mg base nNet "_law_net" (defScope sNet) f cdv A outer s H E).nox netScope [("_law_script", s.heap.objs.size + 1), ("_law_points", s.heap.objs.size + 3), ("_law_kind", s.heap.objs.size + 4), ("_law_at", s.heap.objs.size + 2)]
      nNetB [none, some 1, some 3, some 2, some 0] := by
  refine ⟨rfl, rfl, by decide +kernel, by decide +kernel, fun p hp => ?_, fun y hy e => ?_, ⟨rfl, rfl, rfl⟩, ⟨rfl, rfl, rfl⟩, ⟨rfl, rfl, rfl⟩, ⟨rfl, rfl, rfl⟩, trivial⟩
  · simp only [List.mem_cons, List.not_mem_nil, or_false] at hp
    rcases hp with rfl | rfl | rfl | rfl <;> rfl
  · have hy' : y ∈ [((PySem.Str.ofString ".0" : Str), NameKind.local), (PySem.Str.ofString "_law_k", .local), (PySem.Str.ofString "_law_tie", .globalImplicit), (PySem.Str.ofString "_law_draw", .globalImplicit), (PySem.Str.ofString "_law_at", .free), (PySem.Str.ofString "_law_kind", .free), (PySem.Str.ofString "_law_points", .free), (PySem.Str.ofString "_law_script", .free)] := hy
    simp only [List.mem_cons, List.not_mem_nil, or_false] at hy'
    rcases hy' with rfl | rfl | rfl | rfl | rfl | rfl | rfl | rfl <;> first | rfl | cases e
theorem ok_net {f : Addr} {fd : FuncData} (F : Fun K "_law_net" "_law_net" sNet f fd) (T : Bi mg) (FD : FnE P w K mg base "_law_draw" ["_law_script", "_law_k"] 1 (spDraw K)) (FT : FnE P w K mg base "_law_tie" ["_law_number", "_law_k", "_law_points", "_law_kind"] 1 spTie) : FnOk P w K mg base CX0 2 f fd ["_law_script", "_law_at"] (spNet K) := by
  refine F.ok scNet (fun vs H Q E h => ?_) (fun cdv A outer s H vs Q E hr h => ?_)
  · obtain ⟨a, ns, rfl, _⟩ := h
    rfl
  · obtain ⟨a, ns, rfl, hS, hl, q⟩ := h
    obtain ⟨t3, h3, r3⟩ : ∃ t, PSs (cxOf CX0 P w K mg base nNet "_law_net" (defScope sNet) f cdv A outer s H E).nox ((defBody sNet).drop 3) t ∧ ∀ pt kd : Int, 2 ≤ pt → pt ≤ 6 →
        t { nx := fun _ H' => Q .non H', rt := Q } [some (.ref a), some (.int 8), some (.int pt), some (.int kd), none] H := by
      refine ⟨_, pss_cons (ps_set (i := 4) scNet.nd rfl (Or.inl rfl) (pe_op op_mod (pe_fc FD hr (pa_c (pv 0) (pa_c (pe_op op_add (pv 1) pe_int) pa_nil))) pe_int))
        (pss_one (ps_ret (pe_tupS (pa_c (pv 2) (pa_c (pe_callTy call_tuple_ofS rfl T.tuple bTuple (pa_c (pe_lcR blkNet rfl rfl T.range (pa_c (pv 4) pa_nil) (monoA_cons (mono_var 4) monoA_nil) rfl (fun C fp s H => pg_name (i := 0) ndNet rfl (Or.inl rfl)) (fun C fp s H => pts_nil)
          (fun C fp s H => pe_fc FT hr (pa_c (pe_fc FD hr (pa_c (pv 4) (pa_c (pe_op op_add (pe_op op_add (pv 1) pe_int) (pv 0)) pa_nil))) (pa_c (pv 0) (pa_c (pv 3) (pa_c (pv 2) pa_nil)))))) pa_nil)) pa_nil))))), fun pt kd p1 p9 => ?_⟩
      refine ⟨_, rfl, _, rfl, _, _, rfl, rfl, a, ns, _, rfl, hS, hl, by decide, by decide, _, _, rfl, rfl, (by show (0 : Int) < 10; decide), ?_⟩
      have d1 := mod_lo (n := draw ns (8 + 2)) (p := 10) (by decide)
      have d2 := mod_hi (n := draw ns (8 + 2)) (p := 10) (by decide)
      obtain ⟨mm, hmm⟩ : ∃ m : Nat, draw ns (8 + 2) % 10 = (m : Int) := ⟨(draw ns (8 + 2) % 10).toNat, by omega⟩
      dsimp only [gName]
      rw [hmm]
      refine ⟨_, rfl, _, rfl, mm, rfl, by omega, fun i ys σ H' => Same H H' ∧ ys.length = i ∧ Ties H' pt ys ∧ ∃ v0, σ = [v0, some (.int 8), some (.int kd), some (.int pt), some (.ref a)], ⟨Same.refl H, rfl, (fun t ht => by cases ht), none, rfl⟩, fun i ys σ H' hi ⟨_, e, _⟩ => by omega, fun i ys σ H' hi ⟨s1, e1, hT, v0, e⟩ => ?_, fun ys σ H' ⟨s1, e1, hT, _⟩ l H2 s2 hl2 => ?_⟩
      · subst e
        dsimp only [gName, tTrue]
        refine iteT ⟨_, rfl, _, rfl, _, _, rfl, rfl, _, rfl, _, _, rfl, rfl, a, ns, _, rfl, s1.seq hS, hl, by omega, by omega, _, rfl, _, rfl, _, rfl, _, _, _, _, rfl, draw_nn _ _, by omega, by omega, by omega, fun x y t H3 x0 x1 y0 y1 ne s3 ht => ⟨Same.trans s1 s3, by rw [List.length_append, e1]; rfl, fun u hu => ?_, _, rfl⟩⟩
        rcases List.mem_append.mp hu with z | z
        · exact (hT u z).same s3
        · rw [List.mem_singleton.mp z]
          exact ⟨t, x, y, rfl, ht, x0, x1, y0, y1, ne⟩
      · refine ⟨l, _, rfl, .inl hl2, fun u H3 s3 hu => ⟨rfl, fun p H4 s4 hp => ?_⟩⟩
        have sA : Same H' H4 := Same.trans (Same.trans s2 s3) s4
        obtain ⟨es, N⟩ := netZ_of (n := pt) hp (s4 _ _ hu) (by omega) (hT.same sA) (by omega) (by omega) (Int.le_refl _)
        exact q H4 p _ u _ es (Same.trans s1 sA) N (by omega) (by omega) (by have := N.len; omega)
    refine ⟨_, pss_cons (ps_set (i := 2) scNet.nd rfl (Or.inr rfl) (pe_op op_add pe_int (pe_op op_mod (pe_fc FD hr (pa_c (pv 0) (pa_c (pv 1) pa_nil))) pe_int)))
      (pss_cons (ps_set (i := 3) scNet.nd rfl (Or.inr rfl) (pe_op op_mod (pe_fc FD hr (pa_c (pv 0) (pa_c (pe_op op_add (pv 1) pe_int) pa_nil))) pe_int))
      (pss_cons (ps_if (pt_cmpR op_eq (pv 3) pe_int (nomark _)) (pss_one (ps_set (i := 2) scNet.nd rfl (Or.inr rfl) (pe_op op_add pe_int (pe_op op_mod (pv 2) pe_int)))) pss_nil) h3)), ?_⟩
    have d1 := mod_lo (n := draw ns 8) (p := 5) (by decide)
    have d2 := mod_hi (n := draw ns 8) (p := 5) (by decide)
    have d3 := mod_lo (n := 2 + draw ns 8 % 5) (p := 3) (by decide)
    have d4 := mod_hi (n := 2 + draw ns 8 % 5) (p := 3) (by decide)
    refine ⟨_, rfl, _, rfl, a, ns, _, rfl, hS, hl, by decide, by decide, _, _, rfl, rfl, (by show (0 : Int) < 5; decide), _, _, rfl, rfl, ?_⟩
    refine ⟨_, rfl, _, rfl, _, _, rfl, rfl, a, ns, _, rfl, hS, hl, by decide, by decide, _, _, rfl, rfl, (by show (0 : Int) < 4; decide), ?_⟩
    refine ⟨_, rfl, rfl, _, rfl, ?_⟩
    refine ite2 (fun _ => ?_) (fun _ => ?_)
    · exact ⟨_, rfl, _, _, rfl, rfl, (by show (0 : Int) < 3; decide), _, _, rfl, rfl, r3 _ _ (by omega) (by omega)⟩
    · exact r3 _ _ (by omega) (by omega)
abbrev sBa : Stmt := top 17
abbrev nBa : List Str := ["_law_script", "_law_at", "_law_ties", "_law_rows", "_law_k", "_law_number"]
def baC : List Stmt → Scope
  | [_, .Expr (.Call _ [e] _ _) _] => clsE e
  | _ => { kind := .function, names := [], isGenerator := false, isCoroutine := false }
abbrev baS : Scope := baC (forB (stOf 17 1))
abbrev nBaB : List Str := ["_law_j", "_law_at", "_law_k", "_law_script"]
def spBa (K : PySem.W.Frag) : Sp := fun vs H Q _ => ∃ (a : Addr) (ns : List Int) (n : Nat), vs = [.ref a, .int 100, .int (n : Int)] ∧ SqL K H a (ns.map V.int) ∧ ns.length ≤ 63 ∧ n ≤ 9 ∧
  ∀ (H' : Hp) (r : Addr) (bs : List (List Nat)), Same H H' → bs.length = n → (∀ b ∈ bs, b.length ≤ 1000) → RowsV H' r bs → Q (.ref r) H'
theorem ndBa : nBaB.Nodup := by decide +kernel
theorem scBa : FnScope nBa ["_law_script", "_law_at", "_law_ties"] (defScope sBa) := ⟨rfl, rfl, rfl, by decide +kernel, rfl, by decide +kernel, by decide +kernel⟩
theorem blkBa {f : Addr} {cdv : Value} {A : Around} {outer : List Env} {s : Shared} {H : Hp} {E : XK} :
    Blk (cxOf CX0 P w K mg base nBa "_law_barred" (defScope sBa) f cdv A outer s H E).nox baS [("_law_script", s.heap.objs.size + 1), ("_law_k", s.heap.objs.size + 3), ("_law_at", s.heap.objs.size + 2)] nBaB [none, some 1, some 4, some 0] := by
  refine ⟨rfl, rfl, by decide +kernel, by decide +kernel, fun p hp => ?_, fun y hy e => ?_, ⟨rfl, rfl, rfl⟩, ⟨rfl, rfl, rfl⟩, ⟨rfl, rfl, rfl⟩, trivial⟩
  · simp only [List.mem_cons, List.not_mem_nil, or_false] at hp
    rcases hp with rfl | rfl | rfl <;> rfl
  · have hy' : y ∈ [((PySem.Str.ofString ".0" : Str), NameKind.local), (PySem.Str.ofString "_law_j", .local), (PySem.Str.ofString "_law_draw", .globalImplicit), (PySem.Str.ofString "_law_at", .free), (PySem.Str.ofString "_law_k", .free), (PySem.Str.ofString "_law_script", .free)] := hy
    simp only [List.mem_cons, List.not_mem_nil, or_false] at hy'
    rcases hy' with rfl | rfl | rfl | rfl | rfl | rfl <;> first | rfl | cases e
theorem ok_ba {f : Addr} {fd : FuncData} (F : Fun K "_law_barred" "_law_barred" sBa f fd) (T : Bi mg) (FD : FnE P w K mg base "_law_draw" ["_law_script", "_law_k"] 1 (spDraw K)) : FnOk P w K mg base CX0 2 f fd ["_law_script", "_law_at", "_law_ties"] (spBa K) := by
  refine F.ok scBa (fun vs H Q E h => ?_) (fun cdv A outer s H vs Q E hr h => ?_)
  · obtain ⟨a, ns, n, rfl, _⟩ := h
    rfl
  · obtain ⟨a, ns, n, rfl, hS, hl, hn, q⟩ := h
    refine ⟨_, pss_cons (ps_set (i := 3) scBa.nd rfl (Or.inl rfl) (pe_lst pa_nil))
      (pss_cons (ps_for PassesOwn.never rfl (pi_range1 rfl T.range (pa_c (pv 2) pa_nil)) (pg_name (i := 4) scBa.nd rfl (Or.inr rfl))
        (pss_cons (ps_set (i := 5) scBa.nd rfl (Or.inl rfl) (pe_fc FD hr (pa_c (pv 0) (pa_c (pe_op op_add (pv 1) (pv 4)) pa_nil))))
        (pss_one (ps_expr (pe_bm PySem.F.plainAttrs_list PySem.F.slot_list_append PySem.F.type_list_append mt_append (pv 3) (pa_c (pe_callTy call_tuple_ofS rfl T.tuple bTuple (pa_c (pe_lcR blkBa rfl rfl T.range (pa_c (pe_op op_mod (pv 5) pe_int) pa_nil) (monoA_cons (fun σ H Q Q' k ⟨v, e, i, j, e1, e2, h1, h2⟩ => ⟨v, e, i, j, e1, e2, h1, k _ _ h2⟩) monoA_nil) rfl (fun C fp s H => pg_name (i := 0) ndBa rfl (Or.inl rfl)) (fun C fp s H => pts_nil)
          (fun C fp s H => pe_op op_mod (pe_fc FD hr (pa_c (pv 3) (pa_c (pe_op op_add (pe_op op_add (pe_op op_add (pv 1) pe_int) (pe_op op_mul pe_int (pv 2))) (pv 0)) pa_nil))) pe_int)) pa_nil)) pa_nil))))))
      (pss_one (ps_ret (pe_callTy call_tuple_ofS rfl T.tuple bTuple (pa_c (pv 3) pa_nil))))), ?_⟩
    refine ⟨Nat.zero_le _, fun B hB => ?_⟩
    have sB : Same H (upd H B (.lst [])) := same_new hB
    refine ⟨_, rfl, (n : Int), rfl, by omega, by omega, for_range (lo := 0) (n := (n : Int).toNat) (fun i σ G => ∃ (v4 v5 : Option V) (rs : List V) (bs : List (List Nat)), σ = [some (.ref a), some (.int 100), some (.int (n : Int)), some (.ref B), v4, v5] ∧ Same H G ∧ G B = some (.lst rs) ∧ bs.length = i ∧ (∀ b ∈ bs, b.length ≤ 1000) ∧ RowsL G rs bs)
      ⟨_, _, [], [], rfl, sB, upd_same, rfl, (fun b hb => by cases hb), rfl, fun i hi => absurd hi (Nat.not_lt_zero _)⟩ (fun i σ G hi ⟨v4, v5, rs, bs, e, sG, hG, hbl, hb1, R⟩ => ?_) (fun σ G ⟨v4, v5, rs, bs, e, sG, hG, hbl, hb1, R⟩ => ?_)⟩
    · subst e
      rw [Int.toNat_natCast] at hi
      rw [Int.zero_add]
      refine ⟨_, rfl, _, rfl, _, rfl, _, _, rfl, rfl, a, ns, _, rfl, sG.seq hS, hl, by omega, by omega, ?_⟩
      have d1 := mod_lo (n := draw ns (100 + (i : Int))) (p := 4) (by decide)
      have d2 := mod_hi (n := draw ns (100 + (i : Int))) (p := 4) (by decide)
      obtain ⟨mm, hmm⟩ : ∃ m : Nat, draw ns (100 + (i : Int)) % 4 = (m : Int) := ⟨(draw ns (100 + (i : Int)) % 4).toNat, by omega⟩
      refine ⟨_, rfl, .inl ⟨rfl, _, SqL.of hG⟩, _, rfl, _, _, rfl, rfl, (by show (0 : Int) < 4; decide), mm, (by show [V.int (draw ns (100 + (i : Int)) % 4)] = _; rw [hmm]), by omega, fun j ys σ G' => Same G G' ∧ (∃ l : List Nat, ys = nl l ∧ l.length = j) ∧ ∃ v0, σ = [v0, some (.int 100), some (.int (i : Int)), some (.ref a)], ⟨Same.refl G, ⟨[], rfl, rfl⟩, none, rfl⟩, fun j ys σ G' hj ⟨_, ⟨l, e, e2⟩, _⟩ => by rw [e, nl_len]; omega, fun j ys σ G' hj ⟨s1, ⟨l, e1, e2⟩, v0, e⟩ => ?_, fun ys σ G' ⟨s1, ⟨l, e1, e2⟩, _⟩ l2 G2 s2 hl2 => ?_⟩
      · subst e
        dsimp only [gName, tTrue]
        refine iteT ⟨_, rfl, _, rfl, _, _, rfl, rfl, _, rfl, _, _, rfl, rfl, .inl ⟨by decide, by decide⟩, _, _, rfl, rfl, _, rfl, _, _, rfl, rfl, a, ns, _, rfl, s1.seq (sG.seq hS), hl, by omega, by omega, _, _, rfl, rfl, (by show (0 : Int) < 6; decide), s1, ?_, _, rfl⟩
        have c1 := mod_lo (n := draw ns (100 + 20 + 3 * (i : Int) + (0 + (j : Int)))) (p := 6) (by decide)
        obtain ⟨x, hx⟩ : ∃ x : Nat, draw ns (100 + 20 + 3 * (i : Int) + (0 + (j : Int))) % 6 = (x : Int) := ⟨(draw ns (100 + 20 + 3 * (i : Int) + (0 + (j : Int))) % 6).toNat, by omega⟩
        refine ⟨l ++ [x], ?_, by rw [List.length_append, e2]; rfl⟩
        rw [e1, ← nl_app, ← hx]
      · subst e1
        refine ⟨l2, _, rfl, .inl hl2, fun b G3 s3 hb => ?_⟩
        have s13 : Same G G3 := Same.trans s1 (Same.trans s2 s3)
        have hG3 := s13 _ _ hG
        refine ⟨B, rs, _, rfl, rfl, hG3, ?_, _, _, _, bs ++ [l], rfl, (Same.trans sG s13).wr hB, upd_same, by rw [List.length_append, hbl]; rfl, fun c hc => ?_, ?_⟩
        · rw [R.1]
          exact Nat.lt_of_lt_of_le (show bs.length < 1000 by omega) (leMil (by decide))
        · rcases List.mem_append.mp hc with z | z
          · exact hb1 c z
          · rw [List.mem_singleton.mp z]
            omega
        · refine ((R.keep (Same.keepT s13)).snoc hb).keep fun c xs e => ?_
          rw [upd_ne fun z => by rw [z, hG3] at e; cases e]
          exact e
    · subst e
      rw [Int.toNat_natCast] at hbl
      exact ⟨_, rfl, B, rs, rfl, .inl hG, fun r G2 s2 h2 => q G2 r bs (Same.trans sG s2) hbl hb1 ⟨rs, h2, R.1, (R.keep (Same.keepT s2)).2⟩⟩
end
end My
set_option Elab.async false
set_option linter.all false
set_option maxRecDepth 100000
set_option maxHeartbeats 1000000
namespace My
open PySem L2 Cs
def tkn (es : List (Nat × Nat)) (bs : List (List Nat)) (tl : Tl) (t i : Nat) : Tl := (bs.getD t []).map some ++ ((List.range i).filter fun j => mtB es t j).map fun j => tl.getD j none
theorem tkn_in {es : List (Nat × Nat)} {bs : List (List Nat)} {tl : Tl} {t i : Nat} (h : mtB es t i = true) : tkn es bs tl t (i + 1) = tkn es bs tl t i ++ [tl.getD i none] := by
  unfold tkn
  rw [List.range_succ, List.filter_append, List.filter_cons, if_pos h, List.map_append, List.append_assoc]
  rfl
theorem tkn_out {es : List (Nat × Nat)} {bs : List (List Nat)} {tl : Tl} {t i : Nat} (h : mtB es t i = false) : tkn es bs tl t (i + 1) = tkn es bs tl t i := by
  unfold tkn
  rw [List.range_succ, List.filter_append, List.filter_cons, h, if_neg (by decide)]
  simp
theorem tkn_all {es : List (Nat × Nat)} {bs : List (List Nat)} {tl : Tl} {t x : Nat} : some x ∈ tkn es bs tl t tl.length ↔ (x ∈ bs.getD t [] ∨ tak es tl t x = true) := by
  unfold tkn
  rw [List.mem_append, tak_iff]
  constructor
  · rintro (h | h)
    · obtain ⟨y, hy, e⟩ := List.mem_map.mp h
      cases e
      exact .inl hy
    · obtain ⟨j, hj, e⟩ := List.mem_map.mp h
      rw [List.mem_filter, List.mem_range] at hj
      exact .inr ⟨j, hj.1, hj.2, e⟩
  · rintro (h | ⟨j, h1, h2, h3⟩)
    · exact .inl (List.mem_map.mpr ⟨x, h, rfl⟩)
    · exact .inr (List.mem_map.mpr ⟨j, List.mem_filter.mpr ⟨List.mem_range.mpr h1, h2⟩, h3⟩)
theorem lft_step {es : List (Nat × Nat)} {bs : List (List Nat)} {tl : Tl} {t i : Nat} : lft es bs (i + 1) tl t = lft es bs i tl t ++ (if some i ∈ tkn es bs tl t tl.length then [] else [i]) := by
  unfold lft
  rw [List.range_succ, List.filter_append, List.filter_cons]
  by_cases h : some i ∈ tkn es bs tl t tl.length
  · rw [if_pos h, if_neg]
    · rfl
    · rw [tkn_all] at h
      rw [Bool.and_eq_true, Bool.not_eq_true', Bool.not_eq_true']
      rintro ⟨h1, h2⟩
      rcases h with h | h
      · rw [List.contains_iff_mem.mpr h] at h1; cases h1
      · rw [h] at h2; cases h2
  · rw [if_neg h, if_pos]
    · rfl
    · rw [tkn_all] at h
      rw [Bool.and_eq_true, Bool.not_eq_true', Bool.not_eq_true']
      refine ⟨?_, ?_⟩
      · cases z : (bs.getD t []).contains i with
        | false => rfl
        | true => exact absurd (.inl (List.contains_iff_mem.mp z)) h
      · cases z : tak es tl t i with
        | false => rfl
        | true => exact absurd (.inr z) h
section
variable {P : Program} {w : World} {K : PySem.W.Frag} {mg : Str → Option Value} {base : Heap}
abbrev sLe : Stmt := top 18
abbrev nLe : List Str := ["_law_net_here", "_law_tints", "_law_many", "_law_kept_off", "_law_tie_here", "_law_taken", "_law_tint", "_law_k"]
abbrev leS : Scope := clsE (retE (stOf 18 3))
abbrev pLe : List Str := ["_law_net_here", "_law_tints", "_law_many", "_law_kept_off", "_law_tie_here"]
theorem scLe : FnScope nLe pLe (defScope sLe) := ⟨rfl, rfl, rfl, by decide +kernel, rfl, by decide +kernel, by decide +kernel⟩
theorem ndLe : (["_law_tint", "_law_taken"] : List Str).Nodup := by decide +kernel
theorem blkLe {f : Addr} {cdv : Value} {A : Around} {outer : List Env} {s : Shared} {H : Hp} {E : XK} :
    Blk (cxOf CX0 P w K mg base nLe "_law_left" (defScope sLe) f cdv A outer s H E).nox leS [("_law_taken", s.heap.objs.size + 1)] ["_law_tint", "_law_taken"] [none, some 5] := by
  refine ⟨rfl, rfl, by decide +kernel, by decide +kernel, fun p hp => ?_, fun y hy e => ?_, ⟨rfl, rfl, rfl⟩, trivial⟩
  · rw [List.mem_singleton.mp hp]
    rfl
  · have hy' : y ∈ [((PySem.Str.ofString ".0" : Str), NameKind.local), (PySem.Str.ofString "_law_tint", .local), (PySem.Str.ofString "_law_taken", .free)] := hy
    simp only [List.mem_cons, List.not_mem_nil, or_false] at hy'
    rcases hy' with rfl | rfl | rfl <;> first | rfl | cases e
structure Ask (H : Hp) (p tq r : Addr) (n : Nat) (q : Addr) (ts : List V) (es : List (Nat × Nat)) (bs : List (List Nat)) (m : Nat) (tl : Tl) : Prop where
  N : NetZ H p n q ts es
  t : H tq = some (.lst (tv tl))
  l : tl.length = es.length
  R : RowsV H r bs
  b : bs.length = es.length
  b1 : ∀ b ∈ bs, b.length ≤ 1000
  m : m ≤ 1000
theorem Ask.same {H H' : Hp} {p tq r : Addr} {n : Nat} {q : Addr} {ts : List V} {es : List (Nat × Nat)} {bs : List (List Nat)} {m : Nat} {tl : Tl} (a : Ask H p tq r n q ts es bs m tl) (s : Same H H') : Ask H' p tq r n q ts es bs m tl :=
  ⟨a.N.same s, s _ _ a.t, a.l, a.R.keep (Same.keepT s), a.b, a.b1, a.m⟩
def spLe : Sp := fun vs H Q _ => ∃ (p tq r : Addr) (n : Nat) (q : Addr) (ts : List V) (es : List (Nat × Nat)) (bs : List (List Nat)) (m : Nat) (tl : Tl) (t : Nat), vs = [.ref p, .ref tq, .int (m : Int), .ref r, .int (t : Int)] ∧ Ask H p tq r n q ts es bs m tl ∧ t < es.length ∧
  ∀ H' l, Same H H' → H' l = some (.lst (nl (lft es bs m tl t))) → Q (.ref l) H'
def KyN (kvs : List (Option Int × V)) (R : Nat → Prop) : Prop := ∀ x : Nat, (valV kvs (some (x : Int))).isSome = true ↔ R x
theorem KyN.put {kvs : List (Option Int × V)} {R : Nat → Prop} (h : KyN kvs R) (o : Option Nat) (v : V) : KyN (putK kvs (o.map fun x : Nat => (x : Int)) v) (fun x => R x ∨ o = some x) := by
  intro x
  rw [valV_put]
  by_cases e : (some (x : Int) : Option Int) = o.map fun x : Nat => (x : Int)
  · rw [if_pos e]
    refine ⟨fun _ => .inr ?_, fun _ => rfl⟩
    cases o with
    | none => cases e
    | some y =>
      have e2 : (x : Int) = (y : Int) := Option.some.inj e
      rw [show x = y by omega]
  · rw [if_neg e, h x]
    refine ⟨.inl, fun z => z.elim id fun z => absurd ?_ e⟩
    rw [z]
    rfl
theorem KyN.iff {kvs : List (Option Int × V)} {R S : Nat → Prop} (h : KyN kvs R) (e : ∀ x, R x ↔ S x) : KyN kvs S := fun x => (h x).trans (e x)
theorem tN_nVq (o : Option Nat) : tN o = nV (o.map fun x : Nat => (x : Int)) := by cases o <;> rfl
theorem ok_le {f : Addr} {fd : FuncData} (F : Fun K "_law_left" "_law_left" sLe f fd) (T : Bi mg) : FnOk P w K mg base CX0 1 f fd pLe spLe := by
  refine F.ok scLe (fun vs H Q E h => ?_) (fun cdv A outer s H vs Q E hr h => ?_)
  · obtain ⟨p, tq, r, n, q, ts, es, bs, m, tl, t, rfl, _⟩ := h
    rfl
  · obtain ⟨p, tq, r, n, qa, ts, es, bs, m, tl, t, rfl, Z, ht, q⟩ := h
    have N := Z.N
    have hlen := N.len
    have hl2 := N.l200
    have hm := Z.m
    have htl := Z.l
    obtain ⟨rs, hr0, hrl, hra⟩ := Z.R
    obtain ⟨ra, hra1, hra2⟩ := hra t (by rw [Z.b]; exact ht)
    have hb1 : (bs.getD t []).length ≤ 1000 := Z.b1 _ (by rw [List.getD_eq_getElem?_getD, List.getElem?_eq_getElem (by rw [Z.b]; exact ht)]; exact List.getElem_mem _)
    refine ⟨_, pss_cons (ps_set (i := 5) scLe.nd rfl (Or.inr rfl) pe_dnewN)
      (pss_cons (ps_for PassesOwn.never rfl (pi_tup (pe_ix ix_tup (pv 3) (pv 4) (fun _ _ => rfl))) (pg_name (i := 6) scLe.nd rfl (Or.inl rfl)) (pss_one (ps_dputN (pv 5) (pv 6) pe_bl rfl)))
      (pss_cons (ps_for PassesOwn.never rfl (pi_range1 rfl T.range (pa_c (pe_callB call_len_seq rfl T.len bLen (pa_c (pv 1) pa_nil)) pa_nil)) (pg_name (i := 7) scLe.nd rfl (Or.inl rfl))
        (pss_one (ps_if (PW.pt (pw_or (pt_cmpR op_in_seq (pe_ix ix_tup (pe_ix ix_tup (pe_ix ix_tup (pv 0) pe_int (fun _ _ => rfl)) (pv 4) (fun _ _ => rfl)) pe_int (fun _ _ => rfl)) (pe_ix ix_tup (pe_ix ix_tup (pv 0) pe_int (fun _ _ => rfl)) (pv 7) (fun _ _ => rfl)) rfl)
            (pw_or1 (pt_cmpR op_in_seq (pe_ix ix_tup (pe_ix ix_tup (pe_ix ix_tup (pv 0) pe_int (fun _ _ => rfl)) (pv 4) (fun _ _ => rfl)) pe_int (fun _ _ => rfl)) (pe_ix ix_tup (pe_ix ix_tup (pv 0) pe_int (fun _ _ => rfl)) (pv 7) (fun _ _ => rfl)) rfl))))
          (pss_one (ps_dputN (pv 5) (pe_ix ix_list (pv 1) (pv 7) (fun _ _ => rfl)) pe_bl rfl)) pss_nil)))
      (pss_one (ps_ret (pe_lcR blkLe rfl rfl T.range (pa_c (pv 2) pa_nil) (monoA_cons (mono_var 2) monoA_nil) rfl (fun C fp s H => pg_name (i := 0) ndLe rfl (Or.inl rfl) (hf := Or.inr rfl)) (fun C fp s H => pts_one (pt_cmp (pc_dnotinNK (P := P) (w := w) rfl rfl (pv 0) (pv 1)))) (fun C fp s H => pv 0)))))), ?_⟩
    intro B HB hB sB hBd
    refine ⟨_, rfl, _, rfl, r, _, _, _, rfl, rfl, SqT.of (sB _ _ hr0), atI_nat hra1, ra, rfl, ⟨_, SqT.of (sB _ _ hra2)⟩, ?_⟩
    refine for_tup (K := K) (a := ra) (xs := nl (bs.getD t [])) (fun i σ G => ∃ (v6 : Option V) (kvs : List (Option Int × V)), σ = [some (.ref p), some (.ref tq), some (.int (m : Int)), some (.ref r), some (.int (t : Int)), some (.ref B), v6, none] ∧ Same H G ∧ G B = some (dnHO P w B kvs) ∧ kvs.length ≤ i ∧ KyN kvs (fun x => x ∈ (bs.getD t []).take i))
      ⟨_, [], rfl, sB, hBd, Nat.le_refl _, fun x => ⟨(fun z => by cases z), fun z => by cases z⟩⟩ (fun i σ G _ ⟨_, _, _, sG, _⟩ => SqT.of (sG _ _ hra2)) (fun i y σ G hx ⟨v6, kvs, e, sG, hG, hkl, hK⟩ => ?_) (fun σ G ⟨v6, kvs, e, sG, hG, hkl, hK⟩ => ?_)
    · subst e
      obtain ⟨y, hy, rfl⟩ := nl_at hx
      have hi := (List.getElem?_eq_some_iff.mp hy).1
      have l1 := length_putK kvs (some (y : Int)) (V.bl true)
      refine ⟨_, rfl, _, rfl, B, kvs, some (y : Int), rfl, rfl, hG, by omega, _, _, rfl, sG.wr hB, upd_same, by omega, ?_⟩
      refine (hK.put (some y) (V.bl true)).iff fun x => ?_
      rw [nl_take hy, List.mem_append, List.mem_singleton]
      exact or_congr_right ⟨fun z => (Option.some.inj z).symm, fun z => by rw [z]⟩
    · subst e
      rw [nl_len] at hkl hK
      rw [List.take_length] at hK
      refine ⟨_, rfl, tq, _, rfl, .inl (SqL.of (sG _ _ Z.t)), _, rfl, by rw [tv_len]; omega, by rw [tv_len]; omega, ?_⟩
      rw [tv_len]
      refine for_range (lo := 0) (n := ((tl.length : Nat) : Int).toNat) (fun i σ G => ∃ (v7 : Option V) (kvs : List (Option Int × V)), σ = [some (.ref p), some (.ref tq), some (.int (m : Int)), some (.ref r), some (.int (t : Int)), some (.ref B), v6, v7] ∧ Same H G ∧ G B = some (dnHO P w B kvs) ∧ kvs.length ≤ 1000 + i ∧ KyN kvs (fun x => some x ∈ tkn es bs tl t i))
        ⟨_, kvs, rfl, sG, hG, by omega, hK.iff fun x => ?_⟩ (fun i σ G hi ⟨v7, kvs, e, sG, hG, hkl, hK⟩ => ?_) (fun σ G ⟨v7, kvs, e, sG, hG, hkl, hK⟩ => ?_)
      · unfold tkn
        rw [List.range_zero, List.filter_nil, List.map_nil, List.append_nil, List.mem_map]
        exact ⟨fun z => ⟨x, z, rfl⟩, fun ⟨y, hy, e⟩ => by cases e; exact hy⟩
      · subst e
        rw [Int.toNat_natCast] at hi
        rw [Int.zero_add]
        have NG := N.same sG
        obtain ⟨tk, htk, hta⟩ := NG.at' ht
        obtain ⟨ik, hik, hia⟩ := NG.at' (k := i) (by omega)
        obtain ⟨o, ho⟩ : ∃ o, tl[i]? = some o := ⟨_, List.getElem?_eq_getElem hi⟩
        have hod : tl.getD i none = o := by rw [List.getD_eq_getElem?_getD, ho]; rfl
        have l1 := length_putK kvs (o.map fun x : Nat => (x : Int)) (V.bl true)
        have fin : mtB es t i = true → KyN (putK kvs (o.map fun x : Nat => (x : Int)) (V.bl true)) (fun x => some x ∈ tkn es bs tl t (i + 1)) := fun h => by
          refine (hK.put o (V.bl true)).iff fun x => ?_
          rw [tkn_in h, hod, List.mem_append, List.mem_singleton]
          exact or_congr_right ⟨fun z => z.symm, fun z => z.symm⟩
        refine ⟨_, rfl, p, _, _, _, rfl, rfl, SqT.of NG.e1, rfl, _, rfl, qa, _, _, _, rfl, rfl, SqT.of NG.e2, atI_nat htk, tk, _, _, _, rfl, rfl, SqT.of hta, rfl, _, rfl, p, _, _, _, rfl, rfl, SqT.of NG.e1, rfl, _, rfl, qa, _, _, _, rfl, rfl, SqT.of NG.e2, atI_nat hik, ik, _, rfl, .inr (SqT.of hia), rfl, rfl, _, rfl, ?_⟩
        refine ite2 (fun h1 => ?_) (fun h1 => ?_)
        · have hmt : mtB es t i = true := by
            have := (in_at _ _).mp h1
            unfold mtB
            rcases this with z | z <;> simp only [z, Bool.or_eq_true, beq_self_eq_true, true_or, or_true]
          refine iteT ⟨_, rfl, _, rfl, _, rfl, tq, _, _, _, rfl, rfl, SqL.of (sG _ _ Z.t), atI_nat (tv_get ho), B, kvs, _, rfl, tN_nVq o, hG, by omega, _, _, rfl, sG.wr hB, upd_same, by omega, fin hmt⟩
        · refine ⟨_, rfl, p, _, _, _, rfl, rfl, SqT.of NG.e1, rfl, _, rfl, qa, _, _, _, rfl, rfl, SqT.of NG.e2, atI_nat htk, tk, _, _, _, rfl, rfl, SqT.of hta, rfl, _, rfl, p, _, _, _, rfl, rfl, SqT.of NG.e1, rfl, _, rfl, qa, _, _, _, rfl, rfl, SqT.of NG.e2, atI_nat hik, ik, _, rfl, .inr (SqT.of hia), rfl, rfl, _, rfl, ?_⟩
          refine ite2 (fun h2 => ?_) (fun h2 => ?_)
          · have hmt : mtB es t i = true := by
              have := (in_at _ _).mp h2
              unfold mtB
              rcases this with z | z <;> simp only [z, Bool.or_eq_true, beq_self_eq_true, true_or, or_true]
            refine ⟨_, rfl, _, rfl, _, rfl, tq, _, _, _, rfl, rfl, SqL.of (sG _ _ Z.t), atI_nat (tv_get ho), B, kvs, _, rfl, tN_nVq o, hG, by omega, _, _, rfl, sG.wr hB, upd_same, by omega, fin hmt⟩
          · refine ⟨_, kvs, rfl, sG, hG, by omega, ?_⟩
            rw [tkn_out]
            · exact hK
            · cases z : mtB es t i with
              | false => rfl
              | true =>
                unfold mtB at z
                simp only [Bool.or_eq_true, beq_iff_eq] at z
                rcases z with ((z | z) | z) | z
                · exact absurd ((in_at _ _).mpr (.inl z)) h1
                · exact absurd ((in_at _ _).mpr (.inr z)) h1
                · exact absurd ((in_at _ _).mpr (.inl z)) h2
                · exact absurd ((in_at _ _).mpr (.inr z)) h2
      · subst e
        rw [Int.toNat_natCast] at hK
        refine ⟨_, rfl, m, rfl, by omega, fun i ys σ G' => Same G G' ∧ ys = nl (lft es bs i tl t) ∧ ∃ v0, σ = [v0, some (.ref B)], ⟨Same.refl G, rfl, none, rfl⟩, fun i ys σ G' hi ⟨_, e2, _⟩ => by rw [e2, nl_len]; exact lft_len es bs i tl t, fun i ys σ G' hi ⟨s1, e2, v0, e⟩ => ?_, fun ys σ G' ⟨s1, e2, _⟩ l G2 s2 hl => ?_⟩
        · subst e e2
          rw [Int.zero_add]
          refine ⟨_, rfl, _, rfl, B, kvs, some (i : Int), rfl, rfl, s1 _ _ hG, _, rfl, ?_⟩
          refine ite2 (fun h1 => ⟨_, rfl, s1, ?_, _, rfl⟩) (fun h1 => ⟨s1, ?_, _, rfl⟩)
          · rw [lft_step, if_neg (fun z => by rw [(hK i).mpr z] at h1; cases h1), ← nl_app]
          · rw [lft_step, if_pos, List.append_nil]
            refine (hK i).mp ?_
            cases z : (valV kvs (some (i : Int))).isSome with
            | true => rfl
            | false => rw [z] at h1; exact absurd rfl h1
        · subst e2
          exact q G2 l (Same.trans sG (Same.trans s1 s2)) hl
end
end My
set_option Elab.async false
set_option linter.all false
set_option maxRecDepth 100000
set_option maxHeartbeats 1000000
namespace My
open PySem L2 Cs
def lfsTo (es : List (Nat × Nat)) (bs : List (List Nat)) (m : Nat) (tl : Tl) (i : Nat) : List (Nat × List Nat) := ((List.range i).filter fun k => tl.getD k none == none).map fun k => (k, lft es bs m tl k)
theorem lfsTo_in {es : List (Nat × Nat)} {bs : List (List Nat)} {m : Nat} {tl : Tl} {i : Nat} (h : tl.getD i none = none) : lfsTo es bs m tl (i + 1) = lfsTo es bs m tl i ++ [(i, lft es bs m tl i)] := by
  unfold lfsTo
  rw [List.range_succ, List.filter_append, List.filter_cons, if_pos (by rw [h]; rfl), List.map_append]
  rfl
theorem lfsTo_out {es : List (Nat × Nat)} {bs : List (List Nat)} {m : Nat} {tl : Tl} {i x : Nat} (h : tl.getD i none = some x) : lfsTo es bs m tl (i + 1) = lfsTo es bs m tl i := by
  unfold lfsTo
  rw [List.range_succ, List.filter_append, List.filter_cons, if_neg (by rw [h]; simp)]
  simp
def BestAt (H : Hp) (v : V) : Option (Nat × List Nat) → Prop
  | none => v = .non
  | some (t, ls) => ∃ b l, v = .ref b ∧ H b = some (.tup [.int (t : Int), .ref l]) ∧ H l = some (.lst (nl ls))
theorem BestAt.same {H H' : Hp} {v : V} {o : Option (Nat × List Nat)} (h : BestAt H v o) (s : Same H H') : BestAt H' v o := by
  cases o with
  | none => exact h
  | some q =>
    obtain ⟨b, l, a1, a2, a3⟩ := h
    exact ⟨b, l, a1, s _ _ a2, s _ _ a3⟩
section
variable {P : Program} {w : World} {K : PySem.W.Frag} {mg : Str → Option Value} {base : Heap}
abbrev sNa : Stmt := top 19
abbrev nNa : List Str := ["_law_net_here", "_law_tints", "_law_many", "_law_kept_off", "_law_best", "_law_k", "_law_there"]
abbrev pNa : List Str := ["_law_net_here", "_law_tints", "_law_many", "_law_kept_off"]
theorem scNa : FnScope nNa pNa (defScope sNa) := ⟨rfl, rfl, rfl, by decide +kernel, rfl, by decide +kernel, by decide +kernel⟩
def spNa : Sp := fun vs H Q _ => ∃ (p tq r : Addr) (n : Nat) (q : Addr) (ts : List V) (es : List (Nat × Nat)) (bs : List (List Nat)) (m : Nat) (tl : Tl), vs = [.ref p, .ref tq, .int (m : Int), .ref r] ∧ Ask H p tq r n q ts es bs m tl ∧
  ∀ H' v, Same H H' → BestAt H' v (best (lfs es bs m tl)) → Q v H'
theorem ok_na {f : Addr} {fd : FuncData} (F : Fun K "_law_narrowest" "_law_narrowest" sNa f fd) (T : Bi mg) (FL : FnE P w K mg base "_law_left" pLe 1 spLe) : FnOk P w K mg base CX0 2 f fd pNa spNa := by
  refine F.ok scNa (fun vs H Q E h => ?_) (fun cdv A outer s H vs Q E hr h => ?_)
  · obtain ⟨p, tq, r, n, q, ts, es, bs, m, tl, rfl, _⟩ := h
    rfl
  · obtain ⟨p, tq, r, n, qa, ts, es, bs, m, tl, rfl, Z, q⟩ := h
    have hl2 := Z.N.l200
    have htl := Z.l
    have hm := Z.m
    refine ⟨_, pss_cons (ps_set (i := 4) scNa.nd rfl (Or.inl rfl) pe_non)
      (pss_cons (ps_for PassesOwn.never rfl (pi_range1 rfl T.range (pa_c (pe_callB call_len_seq rfl T.len bLen (pa_c (pv 1) pa_nil)) pa_nil)) (pg_name (i := 5) scNa.nd rfl (Or.inl rfl))
        (pss_one (ps_if (pt_cmpR op_isN (pe_ix ix_list (pv 1) (pv 5) (fun _ _ => rfl)) pe_non (nomark _))
          (pss_cons (ps_set (i := 6) scNa.nd rfl (Or.inl rfl) (pe_fc FL hr (pa_c (pv 0) (pa_c (pv 1) (pa_c (pv 2) (pa_c (pv 3) (pa_c (pv 5) pa_nil)))))))
          (pss_one (ps_if (PW.pt (pw_or (pt_cmpR op_isN (pv 4) pe_non (nomark _)) (pw_or1 (pt_cmpR op_lt (pe_callB call_len_seq rfl T.len bLen (pa_c (pv 6) pa_nil)) (pe_callB call_len_seq rfl T.len bLen (pa_c (pe_ix ix_tup (pv 4) pe_int (fun _ _ => rfl)) pa_nil)) (nomark _)))))
            (pss_one (ps_set (i := 4) scNa.nd rfl (Or.inl rfl) (pe_tupS (pa_c (pv 5) (pa_c (pv 6) pa_nil))))) pss_nil))) pss_nil)))
      (pss_one (ps_ret (pv 4)))), ?_⟩
    refine ⟨_, rfl, tq, _, rfl, .inl (SqL.of Z.t), _, rfl, by rw [tv_len]; omega, by rw [tv_len]; omega, ?_⟩
    rw [tv_len]
    refine for_range (lo := 0) (n := ((tl.length : Nat) : Int).toNat) (fun i σ G => ∃ (v4 : V) (v5 v6 : Option V), σ = [some (.ref p), some (.ref tq), some (.int (m : Int)), some (.ref r), some v4, v5, v6] ∧ Same H G ∧ BestAt G v4 (best (lfsTo es bs m tl i)))
      ⟨_, _, _, rfl, Same.refl H, rfl⟩ (fun i σ G hi ⟨v4, v5, v6, e, sG, hB⟩ => ?_) (fun σ G ⟨v4, v5, v6, e, sG, hB⟩ => ?_)
    · subst e
      rw [Int.toNat_natCast] at hi
      rw [Int.zero_add]
      obtain ⟨o, ho⟩ : ∃ o, tl[i]? = some o := ⟨_, List.getElem?_eq_getElem hi⟩
      have hod : tl.getD i none = o := by rw [List.getD_eq_getElem?_getD, ho]; rfl
      refine ⟨_, rfl, _, rfl, tq, _, _, _, rfl, rfl, SqL.of (sG _ _ Z.t), atI_nat (tv_get ho), rfl, _, rfl, ?_⟩
      cases o with
      | some x =>
        refine iteF ⟨_, _, _, rfl, sG, ?_⟩
        rw [lfsTo_out hod]
        exact hB
      | none =>
        refine iteT ⟨_, rfl, _, rfl, _, rfl, _, rfl, _, rfl, p, tq, r, n, qa, ts, es, bs, m, tl, i, rfl, Z.same sG, by omega, fun G1 l s1 hl => ?_⟩
        have sG1 := Same.trans sG s1
        have hB1 := hB.same s1
        rw [lfsTo_in hod, best_snoc]
        cases hbb : best (lfsTo es bs m tl i) with
        | none =>
          rw [hbb] at hB1
          cases (show v4 = .non from hB1)
          refine ⟨_, rfl, rfl, _, rfl, iteT (iteT ⟨_, rfl, _, rfl, rfl, fun b G2 s2 hb => ⟨_, _, _, rfl, Same.trans sG1 s2, b, l, rfl, hb, s2 _ _ hl⟩⟩)⟩
        | some bq =>
          obtain ⟨t, ls⟩ := bq
          rw [hbb] at hB1
          obtain ⟨b, l0, rfl, hb, hl0⟩ := hB1
          refine ⟨_, rfl, rfl, _, rfl, iteF ?_⟩
          refine ⟨_, rfl, l, _, rfl, .inl (SqL.of hl), _, rfl, b, _, _, _, rfl, rfl, SqT.of hb, rfl, l0, _, rfl, .inl (SqL.of hl0), _, _, rfl, rfl, _, rfl, ?_⟩
          rw [nl_len, nl_len]
          unfold stp
          dsimp only
          refine ite2 (fun z => ?_) (fun z => ?_)
          · rw [if_pos (by have := of_decide_eq_true z; omega)]
            exact ⟨_, rfl, _, rfl, rfl, fun b' G2 s2 hb' => ⟨_, _, _, rfl, Same.trans sG1 s2, b', l, rfl, hb', s2 _ _ hl⟩⟩
          · rw [if_neg fun y => z (decide_eq_true (by omega))]
            exact ⟨_, _, _, rfl, sG1, b, l0, rfl, hb, hl0⟩
    · subst e
      rw [Int.toNat_natCast] at hB
      exact ⟨_, rfl, q G v4 sG hB⟩
end
end My
set_option Elab.async false
set_option linter.all false
set_option maxRecDepth 100000
set_option maxHeartbeats 2000000
namespace My
open PySem L2 Cs
def GnAt (es : List (Nat × Nat)) (bs : List (List Nat)) (m : Nat) (H : Hp) (n : Nat) (tl : Tl) (v : V) : Prop :=
  match (go es bs m n tl).1 with
  | some r => ∃ a b, v = .ref a ∧ H a = some (.tup [.str "tints", .ref b]) ∧ H b = some (.tup (tv r))
  | none => CaseAt es bs m H n tl v
theorem GnAt.full {es : List (Nat × Nat)} {bs : List (List Nat)} {m : Nat} {H : Hp} {n : Nat} {tl r : Tl} {v : V} (h : GnAt es bs m H n tl v) (e : (go es bs m n tl).1 = some r) : ∃ a b, v = .ref a ∧ H a = some (.tup [.str "tints", .ref b]) ∧ H b = some (.tup (tv r)) := by
  unfold GnAt at h
  rw [e] at h
  exact h
theorem GnAt.case {es : List (Nat × Nat)} {bs : List (List Nat)} {m : Nat} {H : Hp} {n : Nat} {tl : Tl} {v : V} (h : GnAt es bs m H n tl v) (e : (go es bs m n tl).1 = none) : CaseAt es bs m H n tl v := by
  unfold GnAt at h
  rw [e] at h
  exact h
theorem GnAt.of_full {es : List (Nat × Nat)} {bs : List (List Nat)} {m : Nat} {H : Hp} {n : Nat} {tl r : Tl} {v : V} (e : (go es bs m n tl).1 = some r) (h : ∃ a b, v = .ref a ∧ H a = some (.tup [.str "tints", .ref b]) ∧ H b = some (.tup (tv r))) : GnAt es bs m H n tl v := by
  unfold GnAt
  rw [e]
  exact h
theorem GnAt.of_case {es : List (Nat × Nat)} {bs : List (List Nat)} {m : Nat} {H : Hp} {n : Nat} {tl : Tl} {v : V} (e : (go es bs m n tl).1 = none) (h : CaseAt es bs m H n tl v) : GnAt es bs m H n tl v := by
  unfold GnAt
  rw [e]
  exact h
theorem CaseAt.head {es : List (Nat × Nat)} {bs : List (List Nat)} {m : Nat} {H : Hp} : ∀ {n : Nat} {tl : Tl} {v : V}, CaseAt es bs m H n tl v → ∃ (a : Addr) (z : Str) (xs : List V), v = .ref a ∧ H a = some (.tup (.str z :: xs)) ∧ decide (V.str z = V.str "tints") = false
  | 0, _, _, h => h.elim
  | n + 1, tl, v, h => by
    obtain ⟨t, ls, a, h1, rfl, h3⟩ := h
    rcases h3 with ⟨e, h3⟩ | ⟨e, b, vs, h3, _⟩
    · exact ⟨a, "stuck", _, rfl, h3, rfl⟩
    · exact ⟨a, "tie", _, rfl, h3, rfl⟩
section
variable {P : Program} {w : World} {K : PySem.W.Frag} {mg : Str → Option Value} {base : Heap}
abbrev sGn : Stmt := top 20
abbrev nGn : List Str := ["_law_net_here", "_law_tints", "_law_many", "_law_kept_off", "_law_room_left", "_law_best", "_law_tie_here", "_law_there", "_law_branches", "_law_tint", "_law_case"]
abbrev pGn : List Str := ["_law_net_here", "_law_tints", "_law_many", "_law_kept_off", "_law_room_left"]
theorem scGn : FnScope nGn pGn (defScope sGn) := ⟨rfl, rfl, rfl, by decide +kernel, rfl, by decide +kernel, by decide +kernel⟩
def spGn (k : Nat) : Sp := fun vs H Q _ => ∃ (p tq r : Addr) (n : Nat) (q : Addr) (ts : List V) (es : List (Nat × Nat)) (bs : List (List Nat)) (m : Nat) (tl : Tl) (rm : Nat), vs = [.ref p, .ref tq, .int (m : Int), .ref r, .int (rm : Int)] ∧ Ask H p tq r n q ts es bs m tl ∧ (bare tl).length ≤ k ∧
  ((go es bs m k tl).2 ≤ rm → ∀ H' v cv, Same H H' → H' v = some (.tup [cv, .int ((rm - (go es bs m k tl).2 : Nat) : Int)]) → GnAt es bs m H' k tl cv → Q (.ref v) H') ∧
  (rm < (go es bs m k tl).2 → ∀ H' v, Same H H' → H' v = some (.tup [.non, .int 0]) → Q (.ref v) H')
theorem ok_gn0 {f : Addr} {fd : FuncData} (F : Fun K "_law_gone" "_law_gone" sGn f fd) (T : Bi mg) (FN : FnE P w K mg base "_law_narrowest" pNa 2 spNa) : FnOk P w K mg base CX0 4 f fd pGn (spGn 0) := by
  refine F.ok (k := 3) scGn (fun vs H Q E h => ?_) (fun cdv A outer s H vs Q E hr h => ?_)
  · obtain ⟨p, tq, r, n, q, ts, es, bs, m, tl, rm, rfl, _⟩ := h
    rfl
  · obtain ⟨p, tq, r, n, qa, ts, es, bs, m, tl, rm, rfl, Z, hb, q1, q2⟩ := h
    have hr2 : Room 2 _ := hr.mono (by omega)
    refine ⟨_, pss_cons (ps_if (pt_cmpR op_eq (pv 4) pe_int (nomark _)) (pss_one (ps_ret (pe_tupS (pa_c pe_non (pa_c pe_int pa_nil))))) pss_nil)
      (pss_cons (ps_set (i := 4) scGn.nd rfl (Or.inl rfl) (pe_op op_sub (pv 4) pe_int))
      (pss_cons (ps_set (i := 5) scGn.nd rfl (Or.inl rfl) (pe_fc FN hr2 (pa_c (pv 0) (pa_c (pv 1) (pa_c (pv 2) (pa_c (pv 3) pa_nil))))))
      (pss_cons (ps_if (pt_cmpR op_isN (pv 5) pe_non (nomark _)) (pss_one (ps_ret (pe_tupS (pa_c (pe_tupS (pa_c pe_str (pa_c (pe_callTy call_tuple_ofS rfl T.tuple bTuple (pa_c (pv 1) pa_nil)) pa_nil))) (pa_c (pv 4) pa_nil))))) pss_nil)
      pss_never))), ?_⟩
    have hbare : bare tl = [] := List.eq_nil_of_length_eq_zero (Nat.le_zero.mp hb)
    have hbest : best (lfs es bs m tl) = none := by rw [best_none]; unfold lfs; rw [hbare]; rfl
    have hgo : go es bs m 0 tl = (some tl, 1) := rfl
    rw [hgo] at q1 q2
    refine ⟨_, rfl, rfl, _, rfl, ?_⟩
    by_cases hz : rm = 0
    · subst hz
      exact iteT ⟨rfl, fun v G sG hv => q2 (by show 0 < 1; decide) G v sG hv⟩
    · rw [decide_eq_false (fun z => hz (by have := V.int.inj z; omega))]
      have hcast : V.int ((rm : Int) - 1) = V.int ((rm - 1 : Nat) : Int) := by rw [Int.natCast_sub (by omega)]; rfl
      refine iteF ⟨_, rfl, _, _, rfl, rfl, ?_⟩
      dsimp only [gName]
      rw [hcast]
      refine ⟨_, rfl, _, rfl, _, rfl, _, rfl, p, tq, r, n, qa, ts, es, bs, m, tl, rfl, Z, fun G v sG hB => ?_⟩
      rw [hbest] at hB
      cases (show v = .non from hB)
      refine ⟨_, rfl, rfl, _, rfl, iteT ⟨_, rfl, tq, _, rfl, .inl (sG _ _ Z.t), fun tb G1 s1 h1 => ⟨rfl, fun a G2 s2 h2 => ⟨_, rfl, rfl, fun u G3 s3 h3 => ?_⟩⟩⟩⟩
      exact q1 (by omega) G3 u (.ref a) (Same.trans sG (Same.trans s1 (Same.trans s2 s3))) h3 (GnAt.of_full (r := tl) rfl ⟨a, tb, rfl, s3 _ _ h2, s3 _ _ (s2 _ _ h1)⟩)
theorem ok_gnS {f : Addr} {fd : FuncData} (F : Fun K "_law_gone" "_law_gone" sGn f fd) (T : Bi mg) (FN : FnE P w K mg base "_law_narrowest" pNa 2 spNa) (k : Nat) (IH : FnE P w K mg base "_law_gone" pGn (k + 4) (spGn k)) : FnOk P w K mg base CX0 (k + 1 + 4) f fd pGn (spGn (k + 1)) := by
  refine F.ok (k := k + 4) scGn (fun vs H Q E h => ?_) (fun cdv A outer s H vs Q E hr h => ?_)
  · obtain ⟨p, tq, r, n, q, ts, es, bs, m, tl, rm, rfl, _⟩ := h
    rfl
  · obtain ⟨p, tq, r, n, qa, ts, es, bs, m, tl, rm, rfl, Z, hb, q1, q2⟩ := h
    have hr2 : Room 2 _ := hr.mono (by omega)
    refine ⟨_, pss_cons (ps_if (pt_cmpR op_eq (pv 4) pe_int (nomark _)) (pss_one (ps_ret (pe_tupS (pa_c pe_non (pa_c pe_int pa_nil))))) pss_nil)
      (pss_cons (ps_set (i := 4) scGn.nd rfl (Or.inl rfl) (pe_op op_sub (pv 4) pe_int))
      (pss_cons (ps_set (i := 5) scGn.nd rfl (Or.inl rfl) (pe_fc FN hr2 (pa_c (pv 0) (pa_c (pv 1) (pa_c (pv 2) (pa_c (pv 3) pa_nil))))))
      (pss_cons (ps_if (pt_cmpR op_isN (pv 5) pe_non (nomark _)) (pss_one (ps_ret (pe_tupS (pa_c (pe_tupS (pa_c pe_str (pa_c (pe_callTy call_tuple_ofS rfl T.tuple bTuple (pa_c (pv 1) pa_nil)) pa_nil))) (pa_c (pv 4) pa_nil))))) pss_nil)
      (pss_cons (ps_asg (pv 5) (pg_tup rfl (pgs_cons (pg_name (i := 6) scGn.nd rfl (Or.inl rfl)) (pgs_cons (pg_name (i := 7) scGn.nd rfl (Or.inl rfl)) pgs_nil))))
      (pss_cons (ps_if (pt_cmpR (op_eqLE hr) (pv 7) (pe_lstS pa_nil) rfl) (pss_one (ps_ret (pe_tupS (pa_c (pe_tupS (pa_c pe_str (pa_c (pv 6) pa_nil))) (pa_c (pv 4) pa_nil))))) pss_nil)
      (pss_cons (ps_set (i := 8) scGn.nd rfl (Or.inl rfl) (pe_lst pa_nil))
      (pss_cons (ps_for PassesOwn.never rfl (pi_list (pv 7)) (pg_name (i := 9) scGn.nd rfl (Or.inl rfl))
        (pss_cons (ps_asg (pe_fc IH hr (pa_c (pv 0) (pa_c (pe_op op_catLS (pe_op op_catLS (pe_slice sl_list (pv 1) po_none (po_some (pv 6))) (pe_lstS (pa_c (pv 9) pa_nil))) (pe_slice sl_list (pv 1) (po_some (pe_op op_add (pv 6) pe_int)) po_none)) (pa_c (pv 2) (pa_c (pv 3) (pa_c (pv 4) pa_nil)))))) (pg_tup rfl (pgs_cons (pg_name (i := 10) scGn.nd rfl (Or.inl rfl)) (pgs_cons (pg_name (i := 4) scGn.nd rfl (Or.inl rfl)) pgs_nil))))
        (pss_cons (ps_if (PW.pt (pw_or (pt_cmpR op_isN (pv 10) pe_non (nomark _)) (pw_or1 (pt_cmpR op_eq (pe_ix ix_tup (pv 10) pe_int (fun _ _ => rfl)) pe_str (nomark _))))) (pss_one (ps_ret (pe_tupS (pa_c (pv 10) (pa_c (pv 4) pa_nil))))) pss_nil)
        (pss_one (ps_expr (pe_bm PySem.F.plainAttrs_list PySem.F.slot_list_append PySem.F.type_list_append mt_append (pv 8) (pa_c (pe_tupS (pa_c (pv 9) (pa_c (pv 10) pa_nil))) pa_nil)))))))
      (pss_one (ps_ret (pe_tupS (pa_c (pe_tupS (pa_c pe_str (pa_c (pv 6) (pa_c (pe_callTy call_tuple_ofS rfl T.tuple bTuple (pa_c (pv 8) pa_nil)) pa_nil)))) (pa_c (pv 4) pa_nil)))))))))))), ?_⟩
    have hgp : 1 ≤ (go es bs m (k + 1) tl).2 := go_pos
    refine ⟨_, rfl, rfl, _, rfl, ?_⟩
    by_cases hz : rm = 0
    · subst hz
      exact iteT ⟨rfl, fun v G sG hv => q2 (by omega) G v sG hv⟩
    rw [decide_eq_false (fun z => hz (by have := V.int.inj z; omega))]
    have hcast : V.int ((rm : Int) - 1) = V.int ((rm - 1 : Nat) : Int) := by rw [Int.natCast_sub (by omega)]; rfl
    refine iteF ⟨_, rfl, _, _, rfl, rfl, ?_⟩
    dsimp only [gName]
    rw [hcast]
    refine ⟨_, rfl, _, rfl, _, rfl, _, rfl, p, tq, r, n, qa, ts, es, bs, m, tl, rfl, Z, fun G v sG hB => ?_⟩
    cases hbest : best (lfs es bs m tl) with
    | none =>
      rw [hbest] at hB
      cases (show v = .non from hB)
      have hgo := go_none (n := k + 1) hbest
      rw [hgo] at q1
      refine ⟨_, rfl, rfl, _, rfl, iteT ⟨_, rfl, tq, _, rfl, .inl (sG _ _ Z.t), fun tb G1 s1 h1 => ⟨rfl, fun a G2 s2 h2 => ⟨_, rfl, rfl, fun u G3 s3 h3 => ?_⟩⟩⟩⟩
      exact q1 (by omega) G3 u (.ref a) (Same.trans sG (Same.trans s1 (Same.trans s2 s3))) h3 (GnAt.of_full (r := tl) (by rw [hgo]) ⟨a, tb, rfl, s3 _ _ h2, s3 _ _ (s2 _ _ h1)⟩)
    | some bq =>
      obtain ⟨t, ls⟩ := bq
      rw [hbest] at hB
      obtain ⟨bb, bl, rfl, hbb, hbl⟩ := hB
      obtain ⟨b1, b2, b3, b4⟩ := best_in hbest
      have hgo := go_some (n := k) hbest
      have ZG := Z.same sG
      refine ⟨_, rfl, rfl, _, rfl, iteF ?_⟩
      refine ⟨_, rfl, bb, _, rfl, SqT.of hbb, rfl, _, _, rfl, _, _, rfl, rfl, ?_⟩
      refine ⟨_, rfl, rfl, fun l0 G0 s0 h0 => ⟨bl, l0, _, rfl, rfl, SqL.of (s0 _ _ hbl), SqL.of h0, _, rfl, ?_⟩⟩
      have sG0 := Same.trans sG s0
      cases hls : ls with
      | nil =>
        rw [hls] at hgo hbest
        have hgo2 : go es bs m (k + 1) tl = (none, 1) := hgo
        rw [hgo2] at q1
        refine iteT ⟨_, rfl, rfl, fun a G1 s1 h1 => ⟨_, rfl, rfl, fun u G2 s2 h2 => ?_⟩⟩
        exact q1 (by omega) G2 u (.ref a) (Same.trans sG0 (Same.trans s1 s2)) h2 (GnAt.of_case (by rw [hgo2]) ⟨t, [], a, hbest, rfl, .inl ⟨rfl, s2 _ _ h1⟩⟩)
      | cons x0 xs0 =>
        rw [← hls]
        have hne2 : ls ≠ [] := by rw [hls]; exact List.cons_ne_nil _ _
        have hl0 : ((nl ls).length == 0) = false := by rw [hls]; rfl
        rw [hl0]
        refine iteF ⟨Nat.zero_le _, fun B hB => ?_⟩
        have sB : Same G0 (upd G0 B (.lst [])) := same_new hB
        have hBH : H B = none := Same.none sG0 hB
        have hbl0 := s0 _ _ hbl
        refine ⟨_, rfl, bl, rfl, ⟨_, SqL.of (sB _ _ hbl0)⟩, ?_⟩
        refine for_list (K := K) (a := bl) (xs := nl ls) (fun i σ G1 => ∃ (v9 v10 : Option V) (brs : List V) (ki : Nat), σ = [some (.ref p), some (.ref tq), some (.int (m : Int)), some (.ref r), some (.int ((rm - ki : Nat) : Int)), some (.ref bb), some (.int (t : Int)), some (.ref bl), some (.ref B), v9, v10] ∧ Same G0 G1 ∧ ki ≤ rm ∧ G1 B = some (.lst brs) ∧ brs.length = i ∧
            (∀ (j x : Nat), j < i → ls[j]? = some x → ∃ (c : Addr) (y : V), brs[j]? = some (.ref c) ∧ G1 c = some (.tup [.int (x : Int), y]) ∧ CaseAt es bs m G1 k (tl.set t (some x)) y) ∧ br (go es bs m k) tl t ls 1 = br (go es bs m k) tl t (ls.drop i) ki)
          ⟨_, _, [], 1, rfl, sB, by omega, upd_same, rfl, fun j x hj => absurd hj (Nat.not_lt_zero _), rfl⟩ (fun i σ G1 _ ⟨_, _, _, _, _, s1, _⟩ => SqL.of (s1 _ _ hbl0)) (fun i y σ G1 hx ⟨v9, v10, brs, ki, e, s1, hki, hBG, hbl', hbr, hgi⟩ => ?_) (fun σ G1 ⟨v9, v10, brs, ki, e, s1, hki, hBG, hbl', hbr, hgi⟩ => ?_)
        · subst e
          obtain ⟨x, hy, rfl⟩ := nl_at hx
          have hdr := drop_at hy
          rw [hdr] at hgi
          have sH1 : Same H G1 := Same.trans sG0 s1
          have Z1 := Z.same sH1
          have htl := Z.l
          have hl200 := Z.N.l200
          have htl2 : (tv tl).length = tl.length := tv_len tl
          refine ⟨_, rfl, _, rfl, _, rfl, _, rfl, tq, _, rfl, SqL.of Z1.t, fun p1 hp1 => ?_⟩
          have sp1 : Same G1 (upd G1 p1 (.lst (cutV (tv tl) none (some (t : Int))))) := same_new hp1
          refine ⟨_, rfl, rfl, fun p2 G2 s2 h2 => ⟨p1, p2, _, _, rfl, rfl, s2 _ _ upd_same, h2, ?_, fun p3 G3 s3 h3 => ?_⟩⟩
          · have := cutV_length (tv tl) none (some (t : Int))
            simp only [List.length_cons, List.length_nil]
            omega
          have sG3 : Same G1 G3 := Same.trans sp1 (Same.trans s2 s3)
          refine ⟨_, rfl, _, rfl, _, _, rfl, rfl, _, rfl, tq, _, rfl, SqL.of (sG3 _ _ Z1.t), fun p4 hp4 => ?_⟩
          have sp4 : Same G3 (upd G3 p4 (.lst (cutV (tv tl) (some ((t : Int) + 1)) none))) := same_new hp4
          refine ⟨p3, p4, _, _, rfl, rfl, sp4 _ _ h3, upd_same, ?_, fun p5 G5 s5 h5 => ?_⟩
          · have := cutV_length (tv tl) none (some (t : Int))
            have := cutV_length (tv tl) (some ((t : Int) + 1)) none
            simp only [List.length_append, List.length_cons, List.length_nil]
            omega
          rw [cut_set b2] at h5
          have sG5 : Same G1 G5 := Same.trans sG3 (Same.trans sp4 s5)
          have Z5 := Z1.same sG5
          obtain ⟨r0, kx, hg⟩ : ∃ r0 kx, go es bs m k (tl.set t (some x)) = (r0, kx) := ⟨_, _, rfl⟩
          refine ⟨_, rfl, _, rfl, _, rfl, p, p5, r, n, qa, ts, es, bs, m, tl.set t (some x), rm - ki, rfl, ⟨Z5.N, h5, by rw [List.length_set]; exact htl, Z5.R, Z5.b, Z5.b1, Z5.m⟩, by have := bare_len (x := x) b1; omega, fun hle G6 u cv s6 hu hcv => ?_, fun hgt G6 u s6 hu => ?_⟩
          · rw [hg] at hle hu
            have s16 := Same.trans sG5 s6
            have hBG6 := s16 _ _ hBG
            refine ⟨u, _, rfl, SqT.of hu, rfl, _, _, rfl, _, _, rfl, rfl, ?_⟩
            cases r0 with
            | some r0 =>
              obtain ⟨a, b, rfl, ha, hb6⟩ := hcv.full (by rw [hg])
              rw [br_some hg] at hgi
              rw [hgo, hgi] at q1
              refine ⟨_, rfl, rfl, _, rfl, iteF ⟨_, rfl, a, _, _, _, rfl, rfl, SqT.of ha, rfl, rfl, _, rfl, iteT ⟨_, rfl, _, rfl, rfl, fun w7 G7 s7 h7 => ?_⟩⟩⟩
              refine q1 (by show ki + kx ≤ rm; omega) G7 w7 (.ref a) (Same.trans sH1 (Same.trans s16 s7)) ?_ (GnAt.of_full (r := r0) (by rw [hgo, hgi]) ⟨a, b, rfl, s7 _ _ ha, s7 _ _ hb6⟩)
              rw [h7, show rm - ki - kx = rm - (ki + kx) by omega]
            | none =>
              have hc6 := hcv.case (by rw [hg])
              rw [br_none hg] at hgi
              obtain ⟨a, z, xs, rfl, ha, hz2⟩ := hc6.head
              refine ⟨_, rfl, rfl, _, rfl, iteF ⟨_, rfl, a, _, 0, .str z, rfl, rfl, SqT.of ha, atI_nat (j := 0) rfl, rfl, _, rfl, ?_⟩⟩
              rw [hz2]
              refine iteF ⟨_, rfl, .inl ⟨rfl, _, SqL.of hBG6⟩, _, rfl, _, rfl, rfl, fun p8 G8 s8 h8 => ?_⟩
              have hB8 := s8 _ _ hBG6
              refine ⟨B, brs, _, rfl, rfl, hB8, ?_, ?_⟩
              · have hi := (List.getElem?_eq_some_iff.mp hy).1
                have h1 := lft_len es bs m tl t
                have h2 := Z.m
                rw [← b4] at h1
                exact Nat.lt_of_lt_of_le (show brs.length < 1001 by omega) (leMil (by decide))
              · have s18 := Same.trans s16 s8
                have kt : KeepT G8 (upd G8 B (.lst (brs ++ [.ref p8]))) := fun b xs e => by
                  rw [upd_ne fun z => by rw [z, hB8] at e; cases e]
                  exact e
                have kt6 : KeepT G6 (upd G8 B (.lst (brs ++ [.ref p8]))) := fun b xs e => kt _ _ (s8 _ _ e)
                have ktG : KeepT G1 (upd G8 B (.lst (brs ++ [.ref p8]))) := fun b xs e => kt _ _ (s18 _ _ e)
                refine ⟨some (.int (x : Int)), some (.ref a), _, ki + kx, ?_, (Same.trans s1 s18).wr hB, by omega, upd_same, by rw [List.length_append, hbl']; rfl, fun j z hj hzj => ?_, hgi⟩
                · rw [show rm - (ki + kx) = rm - ki - kx by omega]
                  rfl
                · by_cases hji : j < i
                  · obtain ⟨c1, y1, g1, g2, g3⟩ := hbr j z hji hzj
                    exact ⟨c1, y1, by rw [List.getElem?_append_left (by omega)]; exact g1, ktG _ _ g2, g3.keep ktG⟩
                  · have e2 : j = i := by omega
                    subst e2
                    rw [hy] at hzj
                    cases hzj
                    exact ⟨p8, .ref a, by rw [List.getElem?_append_right (by omega), hbl', Nat.sub_self]; rfl, kt _ _ h8, hc6.keep kt6⟩
          · rw [hg] at hgt
            refine ⟨u, _, rfl, SqT.of hu, rfl, _, _, rfl, _, _, rfl, rfl, ?_⟩
            refine ⟨_, rfl, rfl, _, rfl, iteT (iteT ⟨_, rfl, _, rfl, rfl, fun w7 G7 s7 h7 => ?_⟩)⟩
            refine q2 ?_ G7 w7 (Same.trans sH1 (Same.trans sG5 (Same.trans s6 s7))) h7
            rw [hgo, hgi]
            have hge : ki + kx ≤ (br (go es bs m k) tl t (x :: ls.drop (i + 1)) ki).2 := by
              cases r0 with
              | none => rw [br_none hg]; exact br_le _ _
              | some r => rw [br_some hg]; exact Nat.le_refl _
            have hgt2 : rm - ki < kx := hgt
            omega
        · subst e
          rw [nl_len] at hbl' hbr hgi
          rw [List.drop_length] at hgi
          have hgn : go es bs m (k + 1) tl = (none, ki) := by rw [hgo, hgi]; rfl
          rw [hgn] at q1
          refine ⟨_, rfl, _, rfl, B, brs, rfl, .inl hBG, fun p1 G1' s1' h1 => ⟨rfl, fun p2 G2 s2 h2 => ⟨_, rfl, rfl, fun u G3 s3 h3 => ?_⟩⟩⟩
          have sG3 : Same G1 G3 := Same.trans s1' (Same.trans s2 s3)
          refine q1 hki G3 u (.ref p2) (Same.trans sG0 (Same.trans s1 sG3)) h3 (GnAt.of_case (by rw [hgn]) ⟨t, ls, p2, hbest, rfl, .inr ⟨hne2, p1, brs, s3 _ _ h2, s3 _ _ (s2 _ _ h1), hbl', fun i x hx => ?_⟩⟩)
          obtain ⟨c1, y1, g1, g2, g3⟩ := hbr i x (List.getElem?_eq_some_iff.mp hx).1 hx
          exact ⟨c1, y1, g1, sG3 _ _ g2, g3.keep (Same.keepT sG3)⟩
def spGnA : Sp := fun vs H Q E => ∃ k, k ≤ 9 ∧ spGn k vs H Q E
theorem ok_gnK {f : Addr} {fd : FuncData} (F : Fun K "_law_gone" "_law_gone" sGn f fd) (T : Bi mg) (FN : FnE P w K mg base "_law_narrowest" pNa 2 spNa) (g : mg "_law_gone" = some (.ref f)) (kp : PySem.W.keepIn K (.ref f) = true) (b : L2.Binds K fd pGn []) : ∀ k, FnOk P w K mg base CX0 (k + 4) f fd pGn (spGn k)
  | 0 => ok_gn0 F T FN
  | k + 1 => ok_gnS F T FN k ⟨⟨f, fd, ok_gnK F T FN g kp b k, g, kp, b⟩⟩
theorem ok_gn {f : Addr} {fd : FuncData} (F : Fun K "_law_gone" "_law_gone" sGn f fd) (T : Bi mg) (FN : FnE P w K mg base "_law_narrowest" pNa 2 spNa) (g : mg "_law_gone" = some (.ref f)) (kp : PySem.W.keepIn K (.ref f) = true) (b : L2.Binds K fd pGn []) : FnOk P w K mg base CX0 13 f fd pGn spGnA :=
  ⟨fun vs H Q E ⟨k, _, h⟩ => (ok_gnK F T FN g kp b k).len vs H Q E h, fun A outer s H args us vs Q E hr he hb hv ⟨k, hk, h⟩ => (ok_gnK F T FN g kp b k).run A outer s H args us vs Q E (hr.mono (by omega)) he hb hv h⟩
end
end My
set_option Elab.async false
set_option linter.all false
set_option maxRecDepth 100000
set_option maxHeartbeats 1000000
namespace My
open PySem L2 Cs
theorem bStr : bootBuiltins "str" = some (.type "str") := by decide +kernel
structure Kinds (K : PySem.W.Frag) (mg : Str → Option Value) (C : Addr) : Prop where
  ex : ∃ te m1 m2 m3 : Addr, mg "TintError" = some (.ref te) ∧ mg "NotPlain" = some (.ref m1) ∧ mg "NotTwoSided" = some (.ref m2) ∧ mg "TooFew" = some (.ref m3) ∧ PySem.W.kitCls K (.ref C) (.ref te) = some true ∧ PySem.W.mroIn K te (.type "BaseException") = some true ∧ PySem.W.kitAny K (.ref C) [.ref m1, .ref m2, .ref m3] = some false
  one : PySem.W.kitOne K (.ref C) (.ref C) = some true
  gt : RX.XGet K C
  no : PySem.W.findIn K (.ref C) "most" = some none
def Im (x : V) : Prop := (∃ i, x = .int i) ∨ ∃ z, x = .str z
def Sme (H : Hp) : Nat → V → V → Prop
  | 0, x, y => x = y ∧ Im x
  | d + 1, x, y => (x = y ∧ Im x) ∨ ∃ a b xs ys, x = .ref a ∧ y = .ref b ∧ H a = some (.tup xs) ∧ H b = some (.tup ys) ∧ xs.length = ys.length ∧ xs.length ≤ 1000 ∧ ∀ (i : Nat) u v, xs[i]? = some u → ys[i]? = some v → Sme H d u v
theorem Sme.tup {H : Hp} {d : Nat} {a b : Addr} {xs ys : List V} (ha : H a = some (.tup xs)) (hb : H b = some (.tup ys)) (hl : xs.length = ys.length) (h1 : xs.length ≤ 1000) (hk : ∀ (i : Nat) u v, xs[i]? = some u → ys[i]? = some v → Sme H d u v) : Sme H (d + 1) (.ref a) (.ref b) :=
  .inr ⟨a, b, xs, ys, rfl, rfl, ha, hb, hl, h1, hk⟩
theorem Sme.im {H : Hp} {d : Nat} {x : V} (h : Im x) : Sme H d x x := by
  cases d with
  | zero => exact ⟨rfl, h⟩
  | succ d => exact .inl ⟨rfl, h⟩
theorem Sme.keep {H H' : Hp} (k : KeepT H H') : ∀ {d : Nat} {x y : V}, Sme H d x y → Sme H' d x y
  | 0, x, y, h => h
  | d + 1, x, y, h => by
    rcases h with h | ⟨a, b, xs, ys, ea, eb, ha, hb, hl, h1, hk⟩
    · exact .inl h
    · exact .inr ⟨a, b, xs, ys, ea, eb, k _ _ ha, k _ _ hb, hl, h1, fun i u v h1 h2 => (hk i u v h1 h2).keep k⟩
section
variable {P : Program} {w : World} {K : PySem.W.Frag} {mg : Str → Option Value} {base : Heap} {cT Pt : Addr}
abbrev sDu : Stmt := top 21
abbrev nDu : List Str := ["_law_net_here", "_law_many", "_law_kept_off", "_law_at_most", "_law_case", "_law_room_left"]
abbrev pDu : List Str := ["_law_net_here", "_law_many", "_law_kept_off", "_law_at_most"]
def callS : Expr → Scope
  | .Call _ es _ _ => clsE (es.getD 1 (.Constant .none 0 ⟨0, 0, 0, 0⟩))
  | _ => { kind := .function, names := [], isGenerator := false, isCoroutine := false }
abbrev duS : Scope := callS (retE (stOf 21 0))
theorem scDu : FnScope nDu pDu (defScope sDu) := ⟨rfl, rfl, rfl, by decide +kernel, rfl, by decide +kernel, by decide +kernel⟩
theorem ndDu : (["_law_tie_here"] : List Str).Nodup := by decide +kernel
theorem blkDu {f : Addr} {cdv : Value} {A : Around} {outer : List Env} {s : Shared} {H : Hp} {E : XK} :
    Blk (cxOf CX0 P w K mg base nDu "_law_due" (defScope sDu) f cdv A outer s H E).nox duS [] ["_law_tie_here"] [none] := by
  refine ⟨rfl, rfl, by decide +kernel, by decide +kernel, fun p hp => (by cases hp), fun y hy e => ?_, trivial⟩
  have hy' : y ∈ [((PySem.Str.ofString ".0" : Str), NameKind.local), (PySem.Str.ofString "_law_tie_here", .local)] := hy
  simp only [List.mem_cons, List.not_mem_nil, or_false] at hy'
  rcases hy' with rfl | rfl <;> first | rfl | cases e
def spDu : Sp := fun vs H Q _ => ∃ (p r : Addr) (n : Nat) (q : Addr) (ts : List V) (es : List (Nat × Nat)) (bs : List (List Nat)) (m mo : Nat), vs = [.ref p, .int (m : Int), .ref r, .int (mo : Int)] ∧ NetZ H p n q ts es ∧ es.length ≤ 9 ∧ RowsV H r bs ∧ bs.length = es.length ∧ (∀ b ∈ bs, b.length ≤ 1000) ∧ m ≤ 1000 ∧
  (num es bs m ≤ mo → ∀ H' v, Same H H' → ResS es bs m H' v → Q v H') ∧ (mo < num es bs m → ∀ H', Same H H' → Q (.int (mo : Int)) H')
theorem ok_du {f : Addr} {fd : FuncData} (F : Fun K "_law_due" "_law_due" sDu f fd) (T : Bi mg) (FG : FnE P w K mg base "_law_gone" pGn 13 spGnA) : FnOk P w K mg base CX0 14 f fd pDu spDu := by
  refine F.ok (k := 13) scDu (fun vs H Q E h => ?_) (fun cdv A outer s H vs Q E hr h => ?_)
  · obtain ⟨p, r, n, q, ts, es, bs, m, mo, rfl, _⟩ := h
    rfl
  · obtain ⟨p, r, n, qa, ts, es, bs, m, mo, rfl, N, hes, R, hbl, hb1, hm, q1, q2⟩ := h
    refine ⟨_, pss_cons (ps_asg (pe_fc FG hr (pa_c (pv 0) (pa_c (pe_lcT blkDu rfl (pe_ix ix_tup (pv 0) pe_int (fun _ _ => rfl)) (mono_ixT (mono_var 0) (mono_c _)) (fun C fp s H => pg_name (i := 0) ndDu rfl (Or.inl rfl) (hf := Or.inr rfl)) (fun C fp s H => pts_nil) (fun C fp s H => pe_non)) (pa_c (pv 1) (pa_c (pv 2) (pa_c (pv 3) pa_nil)))))) (pg_tup rfl (pgs_cons (pg_name (i := 4) scDu.nd rfl (Or.inl rfl)) (pgs_cons (pg_name (i := 5) scDu.nd rfl (Or.inl rfl)) pgs_nil))))
      (pss_cons (ps_if (pt_cmpR op_isN (pv 4) pe_non (nomark _)) (pss_one (ps_ret (pv 3))) pss_nil)
      (pss_cons (ps_if (pt_cmpR op_eq (pe_ix ix_tup (pv 4) pe_int (fun _ _ => rfl)) pe_str (nomark _)) (pss_one (ps_ret (pv 4))) pss_nil)
      (pss_one (ps_ret (pe_tupS (pa_c pe_str (pa_c (pv 4) pa_nil))))))), ?_⟩
    have hlen := N.len
    refine ⟨_, rfl, _, rfl, p, _, _, _, rfl, rfl, SqT.of N.e1, rfl, qa, ts, rfl, SqT.of N.e2, by omega, fun i ys σ G' => Same H G' ∧ ys = tv (List.replicate i none) ∧ ∃ v0, σ = [v0], ⟨Same.refl _, rfl, none, rfl⟩, fun i ys σ G' hi ⟨f1, f2, _⟩ => ⟨SqT.of (f1 _ _ N.e2), by rw [f2, tv_len, List.length_replicate]; exact Nat.le_refl _⟩, fun i x ys σ G' hx ⟨f1, f2, v0, f3⟩ => ?_, fun ys σ G2 ⟨f1, f2, _⟩ l G3 s3 hl => ?_⟩
    · subst f3
      refine ⟨f1, ?_, _, rfl⟩
      rw [f2, List.replicate_succ']
      unfold tv
      rw [List.map_append]
      rfl
    have s13 : Same H G3 := Same.trans f1 s3
    rw [f2, hlen] at hl
    refine ⟨_, rfl, _, rfl, _, rfl, es.length, hes, p, l, r, n, qa, ts, es, bs, m, List.replicate es.length none, mo, rfl, ⟨N.same s13, hl, List.length_replicate .., R.keep (Same.keepT s13), hbl, hb1, hm⟩, by rw [bare_rep, List.length_range]; exact Nat.le_refl _, fun hle G4 u cv s4 hu hcv => ?_, fun hgt G4 u s4 hu => ?_⟩
    · have s14 := Same.trans s13 s4
      refine ⟨u, _, rfl, SqT.of hu, rfl, _, _, rfl, _, _, rfl, rfl, ?_⟩
      cases e : (go es bs m es.length (List.replicate es.length none)).1 with
      | some rt =>
        obtain ⟨a, b, rfl, ha, hb⟩ := hcv.full e
        refine ⟨_, rfl, rfl, _, rfl, iteF ⟨_, rfl, a, _, _, _, rfl, rfl, SqT.of ha, rfl, rfl, _, rfl, iteT ⟨_, rfl, ?_⟩⟩⟩
        exact q1 hle G4 _ s14 (ResAt.of_full e ⟨a, b, rfl, ha, hb⟩)
      | none =>
        have hc := hcv.case e
        obtain ⟨a, z, xs, rfl, ha, hz2⟩ := hc.head
        refine ⟨_, rfl, rfl, _, rfl, iteF ⟨_, rfl, a, _, 0, .str z, rfl, rfl, SqT.of ha, atI_nat (j := 0) rfl, rfl, _, rfl, ?_⟩⟩
        rw [hz2]
        refine iteF ⟨_, rfl, rfl, fun c G5 s5 hc5 => ?_⟩
        exact q1 hle G5 _ (Same.trans s14 s5) (ResAt.of_case e ⟨c, .ref a, rfl, hc5, hc.keep (Same.keepT s5)⟩)
    · refine ⟨u, _, rfl, SqT.of hu, rfl, _, _, rfl, _, _, rfl, rfl, ?_⟩
      exact ⟨_, rfl, rfl, _, rfl, iteT ⟨_, rfl, q2 hgt G4 (Same.trans s13 s4)⟩⟩
abbrev sSm : Stmt := top 22
abbrev nSm : List Str := ["_law_found", "_law_due_here", "_law_k"]
abbrev pSm : List Str := ["_law_found", "_law_due_here"]
theorem scSm : FnScope nSm pSm (defScope sSm) := ⟨rfl, rfl, rfl, by decide +kernel, rfl, by decide +kernel, by decide +kernel⟩
def spSm (d : Nat) : Sp := fun vs H Q _ => ∃ x y : V, vs = [x, y] ∧ Sme H d x y ∧ Q (.bl true) H
theorem ok_sm0 {f : Addr} {fd : FuncData} (F : Fun K "_law_same" "_law_same" sSm f fd) (T : Bi mg) (hst : mg "str" = none) : FnOk P w K mg base CX0 2 f fd pSm (spSm 0) := by
  refine F.ok (k := 1) scSm (fun vs H Q E h => ?_) (fun cdv A outer s H vs Q E hr h => ?_)
  · obtain ⟨x, y, rfl, _⟩ := h
    rfl
  · obtain ⟨x, y, rfl, ⟨rfl, hi⟩, q⟩ := h
    refine ⟨_, pss_cons (ps_if (pt_val (pe_callB call_isinst rfl T.isi bIsi (pa_c (pv 1) (pa_c (pe_bltn (v := .ty "tuple") rfl T.tuple bTuple rfl) pa_nil)))) pss_never pss_nil)
      (pss_cons (ps_if (pt_val (pe_callB call_isinst rfl T.isi bIsi (pa_c (pv 1) (pa_c (pe_bltn (v := .ty "str") rfl hst bStr rfl) pa_nil)))) (pss_one (ps_ret (pe_and (pe_callB call_isinst rfl T.isi bIsi (pa_c (pv 0) (pa_c (pe_bltn (v := .ty "str") rfl hst bStr rfl) pa_nil))) (pe_one (pe_cmpR op_eq (pv 0) (pv 1) (nomark _)))))) pss_nil)
      (pss_one (ps_ret (pe_and (pe_callB call_isinst rfl T.isi bIsi (pa_c (pv 0) (pa_c (pe_bltn (v := .ty "int") rfl T.int bInt rfl) pa_nil))) (pe_and (pe_not (pe_callB call_isinst rfl T.isi bIsi (pa_c (pv 0) (pa_c (pe_bltn (v := .ty "bool") rfl T.bool bBool rfl) pa_nil)))) (pe_one (pe_cmpR op_eq (pv 0) (pv 1) (nomark _)))))))), ?_⟩
    rcases hi with ⟨i, rfl⟩ | ⟨z, rfl⟩
    · refine ⟨_, rfl, _, _, _, _, rfl, .int i, kit K "int" "tuple" false (by decide +kernel), _, rfl, iteF ?_⟩
      refine ⟨_, rfl, _, _, _, _, rfl, .int i, kit K "int" "str" false (by decide +kernel), _, rfl, iteF ?_⟩
      refine ⟨_, rfl, _, _, _, _, rfl, .int i, kit K "int" "int" true (by decide +kernel), _, rfl, iteT ?_⟩
      refine ⟨_, rfl, _, _, _, _, rfl, .int i, kit K "int" "bool" false (by decide +kernel), _, rfl, _, rfl, iteT ⟨_, rfl, _, rfl, rfl, ?_⟩⟩
      rw [decide_eq_true rfl]
      exact q
    · refine ⟨_, rfl, _, _, _, _, rfl, .str z, kit K "str" "tuple" false (by decide +kernel), _, rfl, iteF ?_⟩
      refine ⟨_, rfl, _, _, _, _, rfl, .str z, kit K "str" "str" true (by decide +kernel), _, rfl, iteT ?_⟩
      refine ⟨_, rfl, _, _, _, _, rfl, .str z, kit K "str" "str" true (by decide +kernel), _, rfl, iteT ⟨_, rfl, _, rfl, rfl, ?_⟩⟩
      rw [decide_eq_true rfl]
      exact q
theorem ok_smS {f : Addr} {fd : FuncData} (F : Fun K "_law_same" "_law_same" sSm f fd) (T : Bi mg) (hst : mg "str" = none) (d : Nat) (F0 : FnOk P w K mg base CX0 (d + 3) f fd pSm (spSm 0)) (IH : FnE P w K mg base "_law_same" pSm (d + 2) (spSm d)) : FnOk P w K mg base CX0 (d + 1 + 2) f fd pSm (spSm (d + 1)) := by
  have F1 : FnOk P w K mg base CX0 (d + 3) f fd pSm (fun vs H Q _ => ∃ (a b : Addr) (xs ys : List V), vs = [.ref a, .ref b] ∧ H a = some (.tup xs) ∧ H b = some (.tup ys) ∧ xs.length = ys.length ∧ xs.length ≤ 1000 ∧ (∀ (i : Nat) u v, xs[i]? = some u → ys[i]? = some v → Sme H d u v) ∧ Q (.bl true) H) := by
    refine F.ok (k := d + 2) scSm (fun vs H Q E h => ?_) (fun cdv A outer s H vs Q E hr h => ?_)
    · obtain ⟨a, b, xs, ys, rfl, _⟩ := h
      rfl
    · obtain ⟨a, b, xs, ys, rfl, ha, hb, hl, h1, hk, q⟩ := h
      refine ⟨_, pss_cons (ps_if (pt_val (pe_callB call_isinst rfl T.isi bIsi (pa_c (pv 1) (pa_c (pe_bltn (v := .ty "tuple") rfl T.tuple bTuple rfl) pa_nil))))
          (pss_cons (ps_if (PW.pt (pw_or (pt_not (pt_val (pe_callB call_isinst rfl T.isi bIsi (pa_c (pv 0) (pa_c (pe_bltn (v := .ty "tuple") rfl T.tuple bTuple rfl) pa_nil))))) (pw_or1 (pt_cmpR op_ne (pe_callB call_len_seq rfl T.len bLen (pa_c (pv 0) pa_nil)) (pe_callB call_len_seq rfl T.len bLen (pa_c (pv 1) pa_nil)) (nomark _))))) pss_never pss_nil)
          (pss_cons (ps_for PassesOwn.never rfl (pi_range1 rfl T.range (pa_c (pe_callB call_len_seq rfl T.len bLen (pa_c (pv 1) pa_nil)) pa_nil)) (pg_name (i := 2) scSm.nd rfl (Or.inl rfl))
            (pss_one (ps_if (pt_not (pt_val (pe_fc IH hr (pa_c (pe_ix ix_tup (pv 0) (pv 2) (fun _ _ => rfl)) (pa_c (pe_ix ix_tup (pv 1) (pv 2) (fun _ _ => rfl)) pa_nil))))) pss_never pss_nil)))
          (pss_one (ps_ret pe_bl)))) pss_nil)
        pss_never, ?_⟩
      refine ⟨_, rfl, _, _, _, _, rfl, .tup hb, kit K "tuple" "tuple" true (by decide +kernel), _, rfl, iteT ?_⟩
      refine ⟨_, rfl, _, _, _, _, rfl, .tup ha, kit K "tuple" "tuple" true (by decide +kernel), _, rfl, iteF ?_⟩
      refine ⟨_, rfl, a, _, rfl, .inr (SqT.of ha), _, rfl, b, _, rfl, .inr (SqT.of hb), rfl, _, rfl, ?_⟩
      rw [decide_eq_true (by rw [hl])]
      refine iteF ⟨_, rfl, b, _, rfl, .inr (SqT.of hb), _, rfl, by omega, by omega, ?_⟩
      refine for_range (lo := 0) (n := ((ys.length : Nat) : Int).toNat) (fun i σ G => (∃ v2, σ = [some (.ref a), some (.ref b), v2]) ∧ G = H) ⟨⟨_, rfl⟩, rfl⟩ (fun i σ G hi ⟨⟨v2, e⟩, eG⟩ => ?_) (fun σ G ⟨_, eG⟩ => ?_)
      · subst e eG
        rw [Int.toNat_natCast] at hi
        rw [Int.zero_add]
        have e1 := List.getElem?_eq_getElem (l := xs) (i := i) (by omega)
        have e2 := List.getElem?_eq_getElem (l := ys) (i := i) hi
        exact ⟨_, rfl, _, rfl, a, _, _, _, rfl, rfl, SqT.of ha, atI_nat e1, _, rfl, _, rfl, b, _, _, _, rfl, rfl, SqT.of hb, atI_nat e2, _, _, rfl, hk i _ _ e1 e2, _, rfl, iteF ⟨⟨_, rfl⟩, rfl⟩⟩
      · subst eG
        exact q
  refine ⟨fun vs H Q E ⟨x, y, e, _⟩ => by rw [e]; rfl, fun A outer s H args us vs Q E hr he hb hv ⟨x, y, e, h, q⟩ => ?_⟩
  subst e
  rcases h with h | ⟨a, b, xs, ys, rfl, rfl, ha, hb', hl, h1, hk⟩
  · exact F0.run A outer s H args us _ Q E hr he hb hv ⟨x, y, rfl, h, q⟩
  · exact F1.run A outer s H args us _ Q E hr he hb hv ⟨a, b, xs, ys, rfl, ha, hb', hl, h1, hk, q⟩
def spSmA : Sp := fun vs H Q E => ∃ d, d ≤ 35 ∧ spSm d vs H Q E
theorem ok_smK {f : Addr} {fd : FuncData} (F : Fun K "_law_same" "_law_same" sSm f fd) (T : Bi mg) (hst : mg "str" = none) (g : mg "_law_same" = some (.ref f)) (kp : PySem.W.keepIn K (.ref f) = true) (b : L2.Binds K fd pSm []) : ∀ d, FnOk P w K mg base CX0 (d + 2) f fd pSm (spSm d)
  | 0 => ok_sm0 F T hst
  | d + 1 => ok_smS F T hst d ((ok_sm0 F T hst).mono (by omega)) ⟨⟨f, fd, ok_smK F T hst g kp b d, g, kp, b⟩⟩
theorem ok_sm {f : Addr} {fd : FuncData} (F : Fun K "_law_same" "_law_same" sSm f fd) (T : Bi mg) (hst : mg "str" = none) (g : mg "_law_same" = some (.ref f)) (kp : PySem.W.keepIn K (.ref f) = true) (b : L2.Binds K fd pSm []) : FnOk P w K mg base CX0 37 f fd pSm spSmA :=
  ⟨fun vs H Q E ⟨k, _, x, y, e, _⟩ => by rw [e]; rfl, fun A outer s H args us vs Q E hr he hb hv ⟨k, hk, h⟩ => (ok_smK F T hst g kp b k).run A outer s H args us vs Q E (hr.mono (by omega)) he hb hv h⟩
abbrev sMf : Stmt := top 23
theorem scMf : FnScope ["_law_kept"] ["_law_kept"] (defScope sMf) := ⟨rfl, rfl, rfl, by decide +kernel, rfl, by decide +kernel, by decide +kernel⟩
def spMf (cT : Addr) : Sp := fun vs H Q _ => ∃ (e dx : Addr) (mo : Int), vs = [.ref e] ∧ H e = some (RX.XO cT (some dx) e) ∧ H dx = some (.xd [("most", .int mo)]) ∧ ∀ H', Same H H' → Q (.int mo) H'
theorem ok_mf {f : Addr} {fd : FuncData} (F : Fun K "_law_most_of" "_law_most_of" sMf f fd) (T : Bi mg) (KC : Kinds K mg cT) (hG : mg "TooGreat" = some (.ref cT)) : FnOk P w K mg base CX0 1 f fd ["_law_kept"] (spMf cT) := by
  obtain ⟨te, m1, m2, m3, gte, g1, g2, g3, kte, hbe, km⟩ := KC.ex
  refine F.ok scMf (fun vs H Q E h => ?_) (fun cdv A outer s H vs Q E hr h => ?_)
  · obtain ⟨e, dx, mo, rfl, _⟩ := h
    rfl
  · obtain ⟨e, dx, mo, rfl, he, hdx, q⟩ := h
    refine ⟨_, pss_cons (ps_if (PW.pt (pw_or (pt_not (pt_val (pe_callB RX.call_isinstX rfl T.isi bIsi (pa_c (pv 0) (pa_c (pe_glob (v := .ref cT) rfl hG rfl) pa_nil))))) (pw_or1 (pt_val (pe_callB RX.call_isinstXT rfl T.isi bIsi (pa_c (pv 0) (pa_c (pe_tupS (pa_c (pe_glob (v := .ref m1) rfl g1 rfl) (pa_c (pe_glob (v := .ref m2) rfl g2 rfl) (pa_c (pe_glob (v := .ref m3) rfl g3 rfl) pa_nil)))) pa_nil))))))) pss_never pss_nil)
      (pss_one (ps_ret (RX.pe_fldX (pv 0) rfl))), ?_⟩
    have hdd : ∀ {G : Hp}, Same H G → ∀ d', some dx = some d' → ∃ u, G d' = some u := fun {G} sG d' hd' => by
      cases hd'
      exact ⟨_, sG _ _ hdx⟩
    refine ⟨_, rfl, e, cT, some dx, _, _, true, rfl, he, hdd (Same.refl _), KC.gt, rfl, KC.one, true, rfl, iteF ?_⟩
    refine ⟨_, rfl, rfl, fun tp G1 s1 htp => ⟨e, cT, some dx, tp, [m1, m2, m3], false, rfl, s1 _ _ he, hdd s1, KC.gt, htp, km, _, rfl, iteF ?_⟩⟩
    exact ⟨_, rfl, e, cT, dx, _, _, rfl, s1 _ _ he, s1 _ _ hdx, KC.gt, KC.no, rfl, (fun n z => by cases z), q G1 s1⟩
end
end My
set_option Elab.async false
set_option linter.all false
set_option maxRecDepth 100000
set_option maxHeartbeats 1000000
namespace RX
open PySem PySem.Spec PyProof.Rows L2 PySem.W
def tCallKX (sp : Sp) (gV : List V → List V → List V) (Ex : L2.St → XK) (t tk : TA) : TE := fun σ H Q => t σ H fun vs H1 => tk σ H1 fun zs H2 => sp (gV vs zs) H2 Q (Ex σ)
theorem pe_callKX {X : Cx} {k : Nat} {f : Addr} {fd : FuncData} {ps ks : List Str} {sp : Sp} {Ex : L2.St → XK} {x : Str} {p pos : Pos} {e : Expr} {es : List Expr} {kws : List Keyword} {t tk : TA} {g : List Value → List Value → List Value} {gV : List V → List V → List V}
    (F : FnOk X.prog X.w X.K X.mg X.base (CXe X.prog X.w) k f fd ps sp) (hr : Room k X.A) (hg : Gl X x) (hm : X.mg x = some (.ref f)) (hk : PySem.W.keepIn X.K (.ref f) = true) (hb : KBinds X.K fd ps ks g gV) (hx : Takes X Ex)
    (ha : PA X (e :: es) t) (hkw : PK X kws tk) (hall : (backToKw pos (keywordEach kws X.env)).all (·.1.isSome) = true := by rfl) (hks : (backToKw pos (keywordEach kws X.env)).filterMap (·.1) = ks := by rfl)
    (hdb : (x == ("__debug__" : Str)) = false := by decide) (he : starEach (e :: es) X.env = (false, eval e X.env) :: starEach es X.env := by rfl)
    (hpl : ((backTo pos (starEach (e :: es) X.env)).any (·.1) || (backToKw pos (keywordEach kws X.env)).any (·.1.isNone)) = false := by rfl) :
    PE X (.Call (.Name x p) (e :: es) kws pos) (tCallKX sp gV Ex t tk) := by
  intro pins s σ H Q I h
  refine wpAny_Call_Name_kw (ld_glob I hg hm ?_ hdb)
  refine PySem.W.callWith_KW (h₀ := X.base) I.ok.mod.kin hk hall (thn (ha pos pins s σ H _ I h) fun us s1 ⟨vs, H1, I1, r, q⟩ => ?_) hpl he
  refine thn (hkw pos pins s1 σ H1 _ I1 q) fun ws s2 ⟨zs, H2, I2, rz, q2⟩ => ⟨I2.kIn, ?_⟩
  rw [hks]
  have r2 := hb.rel r rz
  have hl : (g us ws).length = ps.length := by rw [← r2.length]; exact F.len _ _ _ _ q2
  refine wpAny_call (codeAny_mono (F.run X.A X.stack s2 H2 ⟨us, ks.zip ws⟩ (g us ws) (gV vs zs) Q (Ex σ) hr I2.env0 (hb.to s2 us ws I2.kIn hl) r2 q2) fun r s' hq => ?_)
  cases r with
  | error e => exact hx pins σ H2 s2 e s' I2 hq
  | ok fl =>
    cases fl with
    | ret u => exact I2.after hq
    | next => exact False.elim hq
    | brk => exact False.elim hq
    | cont => exact False.elim hq
end RX
namespace My
open PySem L2 Cs
def kwG : List Value → List Value → List Value
  | [a, b], [c, d] => [a, b, d, c]
  | _, _ => []
def kwV : List V → List V → List V
  | [a, b], [c, d] => [a, b, d, c]
  | _, _ => []
theorem kw_rel : ∀ {vs : List V} {us : List Value} {zs : List V} {ws : List Value}, Vals vs us → Vals zs ws → Vals (kwV vs zs) (kwG us ws)
  | _, _, _, _, .cons r1 (.cons r2 .nil), .cons r3 (.cons r4 .nil) => .cons r1 (.cons r2 (.cons r4 (.cons r3 .nil)))
  | _, _, _, _, .nil, _ => .nil
  | _, _, _, _, .cons _ .nil, _ => .nil
  | _, _, _, _, .cons _ (.cons _ (.cons _ _)), _ => .nil
  | _, _, _, _, .cons _ (.cons _ .nil), .nil => .nil
  | _, _, _, _, .cons _ (.cons _ .nil), .cons _ .nil => .nil
  | _, _, _, _, .cons _ (.cons _ .nil), .cons _ (.cons _ (.cons _ _)) => .nil
section
variable {P : Program} {w : World} {K : PySem.W.Frag} {mg : Str → Option Value} {base : Heap} {cT Pt : Addr}
abbrev GrL (Pt : Addr) (H H' : Hp) : Prop := Gr Pt lpos lqual H H'
def SrW (Pt : Addr) (p : Addr) (m mo : Nat) (bv : V) (H : Hp) (Q : VK) : Prop := ∃ (n : Nat) (q : Addr) (ts : List V) (es : List (Nat × Nat)) (bs : List (List Nat)), NetZ H p n q ts es ∧ m ≤ 1000 ∧ bs.length = es.length ∧ (∀ b ∈ bs, b.length ≤ 1000) ∧ Rows H bv bs ∧ TabL Pt H ∧
  (40 < es.length → ∀ H', GrL Pt H H' → Q (.int 40) H') ∧ (es.length ≤ 40 → (num es bs m ≤ mo → ∀ H' v, GrL Pt H H' → ResS es bs m H' v → Q v H') ∧ (mo < num es bs m → ∀ H', GrL Pt H H' → Q (.int (mo : Int)) H'))
abbrev sSd : Stmt := top 24
abbrev nSd : List Str := ["_law_net_here", "_law_many", "_law_kept_off", "_law_at_most", "_law_found", "_law_kept", "error"]
abbrev pSd : List Str := ["_law_net_here", "_law_many", "_law_kept_off", "_law_at_most"]
theorem scSd : FnScope nSd pSd (defScope sSd) := ⟨rfl, rfl, rfl, by decide +kernel, rfl, by decide +kernel, by decide +kernel⟩
def spSd (Pt : Addr) : Sp := fun vs H Q _ => ∃ (p : Addr) (m mo : Nat) (bv : V), vs = [.ref p, .int (m : Int), bv, .int (mo : Int)] ∧ SrW Pt p m mo bv H Q
theorem ok_sd {f fS : Addr} {fd fdS : FuncData} (F : Fun K "_law_searched" "_law_searched" sSd f fd) (T : Bi mg) (KC : Kinds K mg cT) (FM : FnE P w K mg base "_law_most_of" ["_law_kept"] 1 (spMf cT))
    (FS : FnOk P w K mg base (RX.CXe P w) 46 fS fdS ["net", "many", "barred", "most"] (spSe cT Pt)) (gS : mg "search" = some (.ref fS)) (kS : PySem.W.keepIn K (.ref fS) = true) (b4 : L2.Binds K fdS ["net", "many", "barred", "most"] []) (bk : L2.KBinds K fdS ["net", "many", "barred", "most"] ["most", "barred"] kwG kwV) :
    FnOk P w K mg base CX0 47 f fd pSd (spSd Pt) := by
  obtain ⟨te, m1, m2, m3, gte, g1, g2, g3, kte, hbe, km⟩ := KC.ex
  refine F.ok (k := 46) scSd (fun vs H Q E h => ?_) (fun cdv A outer s H vs Q E hr h => ?_)
  · obtain ⟨p, m, mo, bv, rfl, _⟩ := h
    rfl
  · obtain ⟨p, m, mo, bv, rfl, n, qa, ts, es, bs, N, hm, hbl, hb1, R, hT, q40, q⟩ := h
    have hr1 : Room 1 _ := hr.mono (by omega)
    obtain ⟨tt, htt, hrest⟩ : ∃ tt, PSs (cxOf CX0 P w K mg base nSd "_law_searched" (defScope sSd) f cdv A outer s H E).nox ((defBody sSd).drop 3) tt ∧
        (∀ (G : Hp) (v : V) (v6 : Option V), Q v G → tt { nx := fun _ H' => Q .non H', rt := Q } [some (.ref p), some (.int (m : Int)), some bv, some (.int (mo : Int)), some v, some .non, v6] G) ∧
        (∀ (G : Hp) (v4 v6 : Option V) (e dx : Addr) (k : Int), G e = some (RX.XO cT (some dx) e) → G dx = some (.xd [("most", .int k)]) → (∀ G', Same G G' → Q (.int k) G') → tt { nx := fun _ H' => Q .non H', rt := Q } [some (.ref p), some (.int (m : Int)), some bv, some (.int (mo : Int)), v4, some (.ref e), v6] G) := by
      refine ⟨_, pss_cons (ps_if (pt_cmpR op_isN (pv 5) pe_non (nomark _)) (pss_one (ps_ret (pv 4))) pss_nil) (pss_one (ps_ret (pe_fc FM hr1 (pa_c (pv 5) pa_nil)))), fun G v v6 h => ?_, fun G v4 v6 e dx k he hdx h => ?_⟩
      · exact ⟨_, rfl, rfl, _, rfl, iteT ⟨_, rfl, h⟩⟩
      · exact ⟨_, rfl, rfl, _, rfl, iteF ⟨_, rfl, e, dx, k, rfl, he, hdx, h⟩⟩
    refine ⟨_, pss_cons (ps_set (i := 4) scSd.nd rfl (Or.inl rfl) pe_non)
      (pss_cons (ps_set (i := 5) scSd.nd rfl (Or.inl rfl) pe_non)
      (pss_cons (RX.ps_try rfl rfl (fun pn E Ex ht => pss_one (ps_if (pt_cmpR op_eq (pe_op op_mod (pv 3) pe_int) pe_int (nomark _))
          (pss_one (ps_set (i := 4) scSd.nd rfl (Or.inl rfl) (RX.pe_callX FS hr rfl gS kS b4 .nil ht (pa_c (pv 0) (pa_c (pv 1) (pa_c (pv 2) (pa_c (pv 3) pa_nil)))))))
          (pss_one (ps_set (i := 4) scSd.nd rfl (Or.inl rfl) (RX.pe_callKX FS hr rfl gS kS bk ht (pa_c (pv 0) (pa_c (pv 1) pa_nil)) (pk_cons (pv 3) (pk_cons (pv 2) pk_nil)))))))
        (RX.ph_as (i := 6) rfl gte hbe scSd.nd rfl rfl (fun e => pss_one (ps_set (i := 5) scSd.nd rfl (Or.inl rfl) (pv 6))) RX.ph_nil))
      htt)), ?_⟩
    refine ⟨_, rfl, _, _, rfl, rfl, (by show (0 : Int) < 2; decide), rfl, _, rfl, ?_⟩
    refine ite2 (fun _ => ?_) (fun _ => ?_)
    · refine ⟨_, rfl, _, rfl, _, rfl, _, rfl, p, n, qa, ts, es, m, mo, bv, bs, rfl, N, hm, hbl, hb1, R, hT, fun h40 G dx sG hdx => ?_, fun h40 => ⟨fun hle G v g r => hrest.1 G v _ ((q h40).1 hle G v g r), fun hgt G dx g hdx => ?_⟩⟩
      · refine ⟨cT, true, rfl, kte, ?_⟩
        rw [if_pos rfl]
        intro e he
        have hed : e ≠ dx := fun z => by rw [z, upd_same] at he; cases he
        refine ⟨_, rfl, hrest.2 _ _ _ e dx 40 upd_same (by rw [upd_ne (Ne.symm hed), upd_same]) fun G' s' => q40 h40 G' ?_⟩
        exact ((((Gr.refl hT).same sG).new hdx).new he).same s'
      · refine ⟨cT, true, rfl, kte, ?_⟩
        rw [if_pos rfl]
        intro e he
        have hed : e ≠ dx := fun z => by rw [z, upd_same] at he; cases he
        exact ⟨_, rfl, hrest.2 _ _ _ e dx (mo : Int) upd_same (by rw [upd_ne (Ne.symm hed), upd_same]) fun G' s' => (q h40).2 hgt G' (((g.new hdx).new he).same s')⟩
    · refine ⟨_, rfl, _, rfl, _, rfl, _, rfl, p, n, qa, ts, es, m, mo, bv, bs, rfl, N, hm, hbl, hb1, R, hT, fun h40 G dx sG hdx => ?_, fun h40 => ⟨fun hle G v g r => hrest.1 G v _ ((q h40).1 hle G v g r), fun hgt G dx g hdx => ?_⟩⟩
      · refine ⟨cT, true, rfl, kte, ?_⟩
        rw [if_pos rfl]
        intro e he
        have hed : e ≠ dx := fun z => by rw [z, upd_same] at he; cases he
        refine ⟨_, rfl, hrest.2 _ _ _ e dx 40 upd_same (by rw [upd_ne (Ne.symm hed), upd_same]) fun G' s' => q40 h40 G' ?_⟩
        exact ((((Gr.refl hT).same sG).new hdx).new he).same s'
      · refine ⟨cT, true, rfl, kte, ?_⟩
        rw [if_pos rfl]
        intro e he
        have hed : e ≠ dx := fun z => by rw [z, upd_same] at he; cases he
        exact ⟨_, rfl, hrest.2 _ _ _ e dx (mo : Int) upd_same (by rw [upd_ne (Ne.symm hed), upd_same]) fun G' s' => (q h40).2 hgt G' (((g.new hdx).new he).same s')⟩
abbrev sBd : Stmt := top 25
abbrev nBd : List Str := ["_law_net_here", "_law_many", "_law_found", "_law_kept", "error"]
theorem scBd : FnScope nBd ["_law_net_here", "_law_many"] (defScope sBd) := ⟨rfl, rfl, rfl, by decide +kernel, rfl, by decide +kernel, by decide +kernel⟩
def spBd (Pt : Addr) : Sp := fun vs H Q _ => ∃ (p : Addr) (m : Nat), vs = [.ref p, .int (m : Int)] ∧ SrW Pt p m 300 .non H Q
theorem ok_bd {f fS : Addr} {fd fdS : FuncData} {t3 : Tok} (F : Fun K "_law_by_default" "_law_by_default" sBd f fd) (T : Bi mg) (KC : Kinds K mg cT) (FM : FnE P w K mg base "_law_most_of" ["_law_kept"] 1 (spMf cT))
    (FS : FnOk P w K mg base (RX.CXe P w) 46 fS fdS ["net", "many", "barred", "most"] (spSe cT Pt)) (gS : mg "search" = some (.ref fS)) (kS : PySem.W.keepIn K (.ref fS) = true) (b2 : L2.Binds K fdS ["net", "many", "barred", "most"] [.none, .int 300 t3]) :
    FnOk P w K mg base CX0 47 f fd ["_law_net_here", "_law_many"] (spBd Pt) := by
  obtain ⟨te, m1, m2, m3, gte, g1, g2, g3, kte, hbe, km⟩ := KC.ex
  refine F.ok (k := 46) scBd (fun vs H Q E h => ?_) (fun cdv A outer s H vs Q E hr h => ?_)
  · obtain ⟨p, m, rfl, _⟩ := h
    rfl
  · obtain ⟨p, m, rfl, n, qa, ts, es, bs, N, hm, hbl, hb1, R, hT, q40, q⟩ := h
    have hr1 : Room 1 _ := hr.mono (by omega)
    have d2 : Vals [V.non, .int 300] [Value.none, .int 300 t3] := .cons rfl (.cons ⟨_, rfl⟩ .nil)
    refine ⟨_, pss_cons (ps_set (i := 2) scBd.nd rfl (Or.inl rfl) pe_non)
      (pss_cons (ps_set (i := 3) scBd.nd rfl (Or.inl rfl) pe_non)
      (pss_cons (RX.ps_try rfl rfl (fun pn E Ex ht => pss_one (ps_set (i := 2) scBd.nd rfl (Or.inl rfl) (RX.pe_callX FS hr rfl gS kS b2 d2 ht (pa_c (pv 0) (pa_c (pv 1) pa_nil)))))
        (RX.ph_as (i := 4) rfl gte hbe scBd.nd rfl rfl (fun e => pss_one (ps_set (i := 3) scBd.nd rfl (Or.inl rfl) (pv 4))) RX.ph_nil))
      (pss_cons (ps_if (pt_cmpR op_isN (pv 3) pe_non (nomark _)) (pss_one (ps_ret (pv 2))) pss_nil) (pss_one (ps_ret (pe_fc FM hr1 (pa_c (pv 3) pa_nil))))))), ?_⟩
    refine ⟨_, rfl, _, rfl, p, n, qa, ts, es, m, 300, .non, bs, rfl, N, hm, hbl, hb1, R, hT, fun h40 G dx sG hdx => ?_, fun h40 => ⟨fun hle G v g r => ⟨_, rfl, rfl, _, rfl, iteT ⟨_, rfl, (q h40).1 hle G v g r⟩⟩, fun hgt G dx g hdx => ?_⟩⟩
    · refine ⟨cT, true, rfl, kte, ?_⟩
      rw [if_pos rfl]
      intro e he
      have hed : e ≠ dx := fun z => by rw [z, upd_same] at he; cases he
      refine ⟨_, rfl, _, rfl, rfl, _, rfl, iteF ⟨_, rfl, e, dx, 40, rfl, upd_same, (by rw [upd_ne (Ne.symm hed), upd_same]), fun G' s' => q40 h40 G' ?_⟩⟩
      exact ((((Gr.refl hT).same sG).new hdx).new he).same s'
    · refine ⟨cT, true, rfl, kte, ?_⟩
      rw [if_pos rfl]
      intro e he
      have hed : e ≠ dx := fun z => by rw [z, upd_same] at he; cases he
      exact ⟨_, rfl, _, rfl, rfl, _, rfl, iteF ⟨_, rfl, e, dx, _, rfl, upd_same, (by rw [upd_ne (Ne.symm hed), upd_same]), fun G' s' => (q h40).2 hgt G' (((g.new hdx).new he).same s')⟩⟩
end
end My
set_option Elab.async false
set_option linter.all false
set_option maxRecDepth 100000
set_option maxHeartbeats 1000000
namespace My
open PySem L2 Cs
theorem NetZ.keepT {H H' : Hp} {p q : Addr} {n : Nat} {ts : List V} {es : List (Nat × Nat)} (h : NetZ H p n q ts es) (k : KeepT H H') : NetZ H' p n q ts es :=
  ⟨k _ _ h.e1, k _ _ h.e2, h.len, fun i t e => let ⟨a, x, y⟩ := h.tie i t e; ⟨a, x, k _ _ y⟩, h.l200, h.n60, h.ok⟩
theorem GrL.keepT {Pt : Addr} {H H' : Hp} (g : GrL Pt H H') (t : TabL Pt H) : KeepT H H' := fun b xs e => g.keep b _ e fun z => by
  obtain ⟨ps, h⟩ := TabI.tbl t (show H Pt = some _ by rw [← z]; exact e)
  cases h
theorem ResAt.keep {es : List (Nat × Nat)} {bs : List (List Nat)} {m n : Nat} {tl : Tl} {H H' : Hp} {v : V} (h : ResAt es bs m H n tl v) (k : KeepT H H') : ResAt es bs m H' n tl v := by
  cases e : (go es bs m n tl).1 with
  | none =>
    obtain ⟨a, y, rfl, ha, hy⟩ := h.case e
    exact ResAt.of_case e ⟨a, y, rfl, k _ _ ha, hy.keep k⟩
  | some r =>
    obtain ⟨a, b, rfl, ha, hb⟩ := h.full e
    exact ResAt.of_full e ⟨a, b, rfl, k _ _ ha, k _ _ hb⟩
theorem good_rep (es : List (Nat × Nat)) (bs : List (List Nat)) (m : Nat) : Good es bs m (List.replicate es.length none) := by
  refine ⟨List.length_replicate .., fun k x e => ?_, fun i j x _ e => ?_⟩
  · rw [List.getElem?_replicate] at e
    split at e <;> cases e
  · rw [List.getElem?_replicate] at e
    split at e <;> cases e
theorem case_sme {es : List (Nat × Nat)} {bs : List (List Nat)} {m : Nat} (hm : m ≤ 1000) {H : Hp} : ∀ {n : Nat} {tl : Tl} {v v' : V}, CaseAt es bs m H n tl v → CaseAt es bs m H n tl v' → Sme H (3 * n + 1) v v'
  | 0, _, _, _, h, _ => h.elim
  | n + 1, tl, v, v', h, h' => by
    obtain ⟨t, ls, a, h1, rfl, h3⟩ := h
    obtain ⟨t', ls', a', h1', rfl, h3'⟩ := h'
    rw [h1] at h1'
    cases h1'
    have hls : ls.length ≤ 1000 := by
      rw [(best_in h1).2.2.2]
      exact Nat.le_trans (lft_len es bs m tl t) hm
    show Sme H (3 * n + 3 + 1) (.ref a) (.ref a')
    rcases h3 with ⟨e, h3⟩ | ⟨e, b, vs, h3, h4, h5, h6⟩
    · rcases h3' with ⟨_, h3'⟩ | ⟨e', _⟩
      · refine Sme.tup h3 h3' rfl (by show 2 ≤ 1000; decide) fun i u w hu hw => ?_
        match i, hu, hw with
        | 0, hu, hw => cases hu; cases hw; exact Sme.im (.inr ⟨_, rfl⟩)
        | 1, hu, hw => cases hu; cases hw; exact Sme.im (.inl ⟨_, rfl⟩)
      · exact absurd e e'
    · rcases h3' with ⟨e', _⟩ | ⟨_, b', vs', h3', h4', h5', h6'⟩
      · exact absurd e' e
      · refine Sme.tup h3 h3' rfl (by show 3 ≤ 1000; decide) fun i u w hu hw => ?_
        match i, hu, hw with
        | 0, hu, hw => cases hu; cases hw; exact Sme.im (.inr ⟨_, rfl⟩)
        | 1, hu, hw => cases hu; cases hw; exact Sme.im (.inl ⟨_, rfl⟩)
        | 2, hu, hw =>
          cases hu; cases hw
          refine Sme.tup h4 h4' (by omega) (by omega) fun i u w hu hw => ?_
          have hi := (List.getElem?_eq_some_iff.mp hu).1
          obtain ⟨x, hx⟩ : ∃ x, ls[i]? = some x := ⟨_, List.getElem?_eq_getElem (by omega)⟩
          obtain ⟨c, y, g1, g2, g3⟩ := h6 i x hx
          obtain ⟨c', y', g1', g2', g3'⟩ := h6' i x hx
          rw [hu] at g1
          cases g1
          rw [hw] at g1'
          cases g1'
          refine Sme.tup g2 g2' rfl (by show 2 ≤ 1000; decide) fun i u w hu hw => ?_
          match i, hu, hw with
          | 0, hu, hw => cases hu; cases hw; exact Sme.im (.inl ⟨_, rfl⟩)
          | 1, hu, hw => cases hu; cases hw; exact case_sme hm g3 g3'
theorem res_sme {es : List (Nat × Nat)} {bs : List (List Nat)} {m : Nat} (hm : m ≤ 1000) (hes : es.length ≤ 1000) {H : Hp} {v v' : V} (h : ResS es bs m H v) (h' : ResS es bs m H v') : Sme H (3 * es.length + 2) v v' := by
  cases e : (go es bs m es.length (List.replicate es.length none)).1 with
  | none =>
    obtain ⟨a, y, rfl, ha, hy⟩ := h.case e
    obtain ⟨a', y', rfl, ha', hy'⟩ := h'.case e
    refine Sme.tup ha ha' rfl (by show 2 ≤ 1000; decide) fun i u w hu hw => ?_
    match i, hu, hw with
    | 0, hu, hw => cases hu; cases hw; exact Sme.im (.inr ⟨_, rfl⟩)
    | 1, hu, hw => cases hu; cases hw; exact case_sme hm hy hy'
  | some r =>
    obtain ⟨a, b, rfl, ha, hb⟩ := h.full e
    obtain ⟨a', b', rfl, ha', hb'⟩ := h'.full e
    obtain ⟨g1, g2⟩ := go_good (es := es) (bs := bs) (m := m) es.length _ r (by rw [bare_rep, List.length_range]; exact Nat.le_refl _) (good_rep es bs m) e
    refine Sme.tup ha ha' rfl (by show 2 ≤ 1000; decide) fun i u w hu hw => ?_
    match i, hu, hw with
    | 0, hu, hw => cases hu; cases hw; exact Sme.im (.inr ⟨_, rfl⟩)
    | 1, hu, hw =>
      cases hu; cases hw
      refine Sme.tup hb hb' rfl (by rw [tv_len, g1.len]; exact hes) fun i u w hu hw => ?_
      rw [hu] at hw
      cases hw
      obtain ⟨o, ho, rfl⟩ := tv_inv hu
      obtain ⟨x, hx⟩ := g2 i (List.getElem?_eq_some_iff.mp ho).1
      rw [ho] at hx
      cases hx
      exact Sme.im (.inl ⟨_, rfl⟩)
theorem best_zero (es : List (Nat × Nat)) (bs : List (List Nat)) (k : Nat) : best (lfs es bs 0 (List.replicate (k + 1) none)) = some (0, []) := by
  rw [lfs_rep]
  refine best_of (i := 0) (by unfold lfB; rw [List.getElem?_map, List.getElem?_range (by omega)]; rfl) fun j p hj => ⟨Nat.zero_le _, fun h => absurd h (Nat.not_lt_zero _)⟩
theorem go_zero {es : List (Nat × Nat)} (bs : List (List Nat)) (h : 0 < es.length) : go es bs 0 es.length (List.replicate es.length none) = (none, 1) := by
  obtain ⟨k, hk⟩ : ∃ k, es.length = k + 1 := ⟨es.length - 1, by omega⟩
  rw [hk, go_some (best_zero es bs k)]
  rfl
section
variable {P : Program} {w : World} {K : PySem.W.Frag} {mg : Str → Option Value} {base : Heap} {cT Pt : Addr}
abbrev sAp : Stmt := top 26
abbrev nAp : List Str := ["_law_script", "_law_alone", "_law_ties", "_law_begin"]
abbrev apS : Scope := clsE (retE (stOf 26 1))
theorem scAp : FnScope nAp ["_law_script"] (defScope sAp) := ⟨rfl, rfl, rfl, by decide +kernel, rfl, by decide +kernel, by decide +kernel⟩
theorem ndAp : (["_law_k"] : List Str).Nodup := by decide +kernel
theorem blkAp {f : Addr} {cdv : Value} {A : Around} {outer : List Env} {s : Shared} {H : Hp} {E : XK} :
    Blk (cxOf CX0 P w K mg base nAp "_law_apart" (defScope sAp) f cdv A outer s H E).nox apS [] ["_law_k"] [none] := by
  refine ⟨rfl, rfl, by decide +kernel, by decide +kernel, fun p hp => (by cases hp), fun y hy e => ?_, trivial⟩
  have hy' : y ∈ [((PySem.Str.ofString ".0" : Str), NameKind.local), (PySem.Str.ofString "_law_k", .local)] := hy
  simp only [List.mem_cons, List.not_mem_nil, or_false] at hy'
  rcases hy' with rfl | rfl <;> first | rfl | cases e
def spAp (K : PySem.W.Frag) : Sp := fun vs H Q _ => ∃ (a : Addr) (ns : List Int), vs = [.ref a] ∧ SqL K H a (ns.map V.int) ∧ ns.length ≤ 63 ∧
  ∀ (H' : Hp) (p : Addr) (n : Nat) (q : Addr) (ts : List V) (es : List (Nat × Nat)), Same H H' → NetZ H' p n q ts es → es.length ≤ 9 → Q (.ref p) H'
theorem ok_ap {f : Addr} {fd : FuncData} (F : Fun K "_law_apart" "_law_apart" sAp f fd) (T : Bi mg) (FD : FnE P w K mg base "_law_draw" ["_law_script", "_law_k"] 1 (spDraw K)) : FnOk P w K mg base CX0 2 f fd ["_law_script"] (spAp K) := by
  refine F.ok scAp (fun vs H Q E h => ?_) (fun cdv A outer s H vs Q E hr h => ?_)
  · obtain ⟨a, ns, rfl, _⟩ := h
    rfl
  · obtain ⟨a, ns, rfl, hS, hl, q⟩ := h
    refine ⟨_, pss_cons (ps_set (i := 1) scAp.nd rfl (Or.inl rfl) (pe_op op_add pe_int (pe_op op_mod (pe_fc FD hr (pa_c (pv 0) (pa_c pe_int pa_nil))) pe_int)))
      (pss_cons (ps_lcR blkAp rfl rfl T.range (pa_c (pv 1) pa_nil) (monoA_cons (mono_var 1) monoA_nil) rfl (fun C fp s H => pg_name (i := 0) ndAp rfl (Or.inl rfl) (hf := Or.inr rfl)) (fun C fp s H => pts_nil) (fun C fp s H => pe_tupS (pa_c (pe_op op_mul pe_int (pv 0)) (pa_c (pe_op op_add (pe_op op_mul pe_int (pv 0)) pe_int) pa_nil))) (pg_name (i := 2) scAp.nd rfl (Or.inl rfl)) rfl)
      (pss_cons (ps_set (i := 3) scAp.nd rfl (Or.inl rfl) (pe_op op_mul pe_int (pv 1)))
      (pss_cons (ps_set (i := 2) scAp.nd rfl (Or.inl rfl) (pe_op op_catLS (pv 2) (pe_lstS (pa_c (pe_tupS (pa_c (pv 3) (pa_c (pe_op op_add (pv 3) pe_int) pa_nil))) (pa_c (pe_tupS (pa_c (pe_op op_add (pv 3) pe_int) (pa_c (pe_op op_add (pv 3) pe_int) pa_nil))) (pa_c (pe_tupS (pa_c (pv 3) (pa_c (pe_op op_add (pv 3) pe_int) pa_nil))) pa_nil))))))
      (pss_one (ps_ret (pe_tupS (pa_c (pe_op op_add (pv 3) pe_int) (pa_c (pe_callTy call_tuple_ofS rfl T.tuple bTuple (pa_c (pv 2) pa_nil)) pa_nil)))))))), ?_⟩
    have d1 := mod_lo (n := draw ns 3) (p := 2) (by decide)
    have d2 := mod_hi (n := draw ns 3) (p := 2) (by decide)
    obtain ⟨k, hk, hk1⟩ : ∃ k : Nat, 5 + draw ns 3 % 2 = (k : Int) ∧ k ≤ 6 := ⟨(5 + draw ns 3 % 2).toNat, by omega, by omega⟩
    refine ⟨_, rfl, a, ns, _, rfl, hS, hl, by decide, by decide, _, _, rfl, rfl, (by show (0 : Int) < 2; decide), _, _, rfl, rfl, ?_⟩
    dsimp only [gName]
    rw [hk]
    refine ⟨_, rfl, k, rfl, by omega, fun i ys σ G => Same H G ∧ ys.length = i ∧ Ties G (2 * (k : Int) + 3) ys ∧ ∃ v0, σ = [v0], ⟨Same.refl H, rfl, (fun t ht => by cases ht), none, rfl⟩, fun i ys σ G hi ⟨_, e, _⟩ => by omega, fun i ys σ G hi ⟨s1, e1, hT, v0, e⟩ => ?_, fun ys σ G ⟨s1, e1, hT, _⟩ l G2 s2 hl2 => ?_⟩
    · subst e
      rw [Int.zero_add]
      refine ⟨_, rfl, _, _, rfl, rfl, .inl ⟨by decide, by decide⟩, _, rfl, _, _, rfl, rfl, .inl ⟨by decide, by decide⟩, _, _, rfl, rfl, rfl, fun b G3 s3 hb => ⟨Same.trans s1 s3, by rw [List.length_append, e1]; rfl, fun u hu => ?_, _, rfl⟩⟩
      rcases List.mem_append.mp hu with z | z
      · exact (hT u z).same s3
      · rw [List.mem_singleton.mp z]
        exact ⟨b, _, _, rfl, hb, by omega, by omega, by omega, by omega, by omega⟩
    · have s02 : Same H G2 := Same.trans s1 s2
      have hT2 := hT.same s2
      refine ⟨_, rfl, _, _, rfl, rfl, .inl ⟨by decide, by decide⟩, ?_⟩
      refine ⟨_, rfl, _, rfl, _, rfl, _, _, rfl, rfl, rfl, fun t1 G3 s3 h1 => ?_⟩
      refine ⟨_, rfl, _, _, rfl, rfl, _, rfl, _, _, rfl, rfl, rfl, fun t2 G4 s4 h2 => ?_⟩
      refine ⟨_, rfl, _, rfl, _, _, rfl, rfl, rfl, fun t3 G5 s5 h3 => ⟨rfl, fun l5 G6 s6 h6 => ?_⟩⟩
      have s26 : Same G2 G6 := Same.trans s3 (Same.trans s4 (Same.trans s5 s6))
      refine ⟨l, l5, _, _, rfl, rfl, s26 _ _ hl2, h6, by simp only [List.length_cons, List.length_nil]; omega, fun l7 G7 s7 h7 => ?_⟩
      refine ⟨_, rfl, _, _, rfl, rfl, _, rfl, l7, _, rfl, .inl h7, fun u G8 s8 h8 => ⟨rfl, fun p G9 s9 h9 => ?_⟩⟩
      have s29 : Same G2 G9 := Same.trans s26 (Same.trans s7 (Same.trans s8 s9))
      have s69 : Same G6 G9 := Same.trans s7 (Same.trans s8 s9)
      have hTs : Ties G9 (2 * (k : Int) + 3) (ys ++ [.ref t1, .ref t2, .ref t3]) := fun t ht => by
        rcases List.mem_append.mp ht with z | z
        · exact (hT2 t z).same s29
        · simp only [List.mem_cons, List.not_mem_nil, or_false] at z
          rcases z with rfl | rfl | rfl
          · exact ⟨t1, _, _, rfl, s69 _ _ (s6 _ _ (s5 _ _ (s4 _ _ h1))), by omega, by omega, by omega, by omega, by omega⟩
          · exact ⟨t2, _, _, rfl, s69 _ _ (s6 _ _ (s5 _ _ h2)), by omega, by omega, by omega, by omega, by omega⟩
          · exact ⟨t3, _, _, rfl, s69 _ _ (s6 _ _ h3), by omega, by omega, by omega, by omega, by omega⟩
      obtain ⟨es, N⟩ := netZ_of (n := 2 * (k : Int) + 3) h9 (s9 _ _ h8) (by simp only [List.length_append, List.length_cons, List.length_nil]; omega) hTs (by omega) (by omega) (Int.le_refl _)
      refine q G9 p _ u _ es (Same.trans s02 s29) N ?_
      have := N.len
      simp only [List.length_append, List.length_cons, List.length_nil] at this
      omega
end
end My
set_option Elab.async false
set_option linter.all false
set_option maxRecDepth 100000
set_option maxHeartbeats 1000000
namespace My
open PySem L2 Cs
theorem cut_memV {ts : List V} {lo hi : Option Int} {t : V} (h : t ∈ cutV ts lo hi) : t ∈ ts := by
  unfold cutV at h
  exact List.mem_of_mem_drop (List.mem_of_mem_take h)
theorem cut_40 {ts : List V} (h : 40 ≤ ts.length) : (cutV ts none (some 40)).length = 40 := by
  unfold cutV
  rw [show (40 : Int) = ((40 : Nat) : Int) from rfl, HT.sIx_nat, HT.sIx_none]
  simp only [List.length_take, List.length_drop]
  omega
section
variable {P : Program} {w : World} {K : PySem.W.Frag} {mg : Str → Option Value} {base : Heap} {cT Pt : Addr}
abbrev sLaw : Stmt := top 27
abbrev nLaw : List Str := ["_law_script", "_law_net_here", "_law_many", "_law_kept_off", "_law_at_most", "_law_apart_here", "_law_due_here", "_law_ties"]
theorem scLaw : FnScope nLaw ["_law_script"] (defScope sLaw) := ⟨rfl, rfl, rfl, by decide +kernel, rfl, by decide +kernel, by decide +kernel⟩
def lwC : Stmt → Scope
  | .If _ [_, .Assign _ (.Call _ [_, _, e, _] _ _) _, _] _ _ => clsE e
  | _ => { kind := .function, names := [], isGenerator := false, isCoroutine := false }
abbrev lwS1 : Scope := lwC (stOf 27 5)
abbrev lwS2 : Scope := clsE (retE (stOf 27 6))
theorem ndL1 : (["_law_tie_here"] : List Str).Nodup := by decide +kernel
theorem ndL2 : (["_law_k", "_law_net_here"] : List Str).Nodup := by decide +kernel
theorem blkL1 {f : Addr} {cdv : Value} {A : Around} {outer : List Env} {s : Shared} {H : Hp} {E : XK} :
    Blk (cxOf CX0 P w K mg base nLaw "law" (defScope sLaw) f cdv A outer s H E).nox lwS1 [] ["_law_tie_here"] [none] := by
  refine ⟨rfl, rfl, by decide +kernel, by decide +kernel, fun p hp => (by cases hp), fun y hy e => ?_, trivial⟩
  have hy' : y ∈ [((PySem.Str.ofString ".0" : Str), NameKind.local), (PySem.Str.ofString "_law_tie_here", .local)] := hy
  simp only [List.mem_cons, List.not_mem_nil, or_false] at hy'
  rcases hy' with rfl | rfl <;> first | rfl | cases e
theorem blkL2 {f : Addr} {cdv : Value} {A : Around} {outer : List Env} {s : Shared} {H : Hp} {E : XK} :
    Blk (cxOf CX0 P w K mg base nLaw "law" (defScope sLaw) f cdv A outer s H E).nox lwS2 [("_law_net_here", s.heap.objs.size + 1)] ["_law_k", "_law_net_here"] [none, some 1] := by
  refine ⟨rfl, rfl, by decide +kernel, by decide +kernel, fun p hp => ?_, fun y hy e => ?_, ⟨rfl, rfl, rfl⟩, trivial⟩
  · rw [List.mem_singleton.mp hp]
    rfl
  · have hy' : y ∈ [((PySem.Str.ofString ".0" : Str), NameKind.local), (PySem.Str.ofString "_law_k", .local), (PySem.Str.ofString "_law_net_here", .free)] := hy
    simp only [List.mem_cons, List.not_mem_nil, or_false] at hy'
    rcases hy' with rfl | rfl | rfl <;> first | rfl | cases e
def spLaw (K : PySem.W.Frag) (Pt : Addr) : Sp := fun vs H Q _ => ∃ (a : Addr) (ns : List Int), vs = [.ref a] ∧ SqL K H a (ns.map V.int) ∧ ns.length ≤ 63 ∧ TabI Pt lpos lqual H ∧ ∀ H', Q (.bl true) H'
theorem law_end {f : Addr} {cdv : Value} {A : Around} {outer : List Env} {s : Shared} {H : Hp} {E : XK} {Q : VK} (T : Bi mg) (hr : Room 49 (A.deeper (PyProof.Rows.envOfC "law" (defScope sLaw) s.heap.objs.size f cdv)))
    (FS : FnE P w K mg base "_law_searched" pSd 47 (spSd Pt)) (FSm : FnE P w K mg base "_law_same" pSm 37 spSmA) (hq : ∀ H', Q (.bl true) H') :
    ∃ t, PSs (cxOf CX0 P w K mg base nLaw "law" (defScope sLaw) f cdv A outer s H E).nox ((defBody sLaw).drop 6) t ∧ ∀ (p : Addr) (n : Nat) (qa : Addr) (ts : List V) (es : List (Nat × Nat)) (G : Hp) (v0 v3 v5 v6 : Option V) (m mo : Nat), 2 ≤ n → NetZ G p n qa ts es → m ≤ 4 → 1 ≤ mo → mo ≤ 60 → TabL Pt G →
      t { nx := fun _ H' => Q .non H', rt := Q } [v0, some (.ref p), some (.int (m : Int)), v3, some (.int (mo : Int)), v5, v6, none] G := by
  have hr47 : Room 47 _ := hr.mono (by decide)
  have hr37 : Room 37 _ := hr.mono (by decide)
  refine ⟨_, pss_cons (ps_lcR blkL2 rfl rfl T.range (pa_c (pe_op op_add pe_int (pv 4)) pa_nil) (monoA_cons (fun σ H Q Q' k ⟨v, e, i, j, e1, e2, h1⟩ => ⟨v, e, i, j, e1, e2, k _ _ h1⟩) monoA_nil) rfl (fun C fp s H => pg_name (i := 0) ndL2 rfl (Or.inl rfl) (hf := Or.inr rfl)) (fun C fp s H => pts_nil)
      (fun C fp s H => pe_tupS (pa_c (pe_op op_mod (pv 0) (pe_ix (ix_tupQ (K := K) rfl) (pv 1) pe_int (fun _ _ => rfl))) (pa_c (pe_op op_mod (pe_op op_add (pv 0) pe_int) (pe_ix (ix_tupQ (K := K) rfl) (pv 1) pe_int (fun _ _ => rfl))) pa_nil))) (pg_name (i := 7) scLaw.nd rfl (Or.inl rfl)) rfl)
    (pss_cons (ps_if (pt_not (pt_val (pe_fc FSm hr37 (pa_c (pe_fc FS hr47 (pa_c (pe_tupS (pa_c (pe_ix ix_tup (pv 1) pe_int (fun _ _ => rfl)) (pa_c (pe_callTy call_tuple_ofS rfl T.tuple bTuple (pa_c (pe_slice sl_list (pv 7) po_none (po_some pe_int)) pa_nil)) pa_nil))) (pa_c pe_int (pa_c pe_non (pa_c (pv 4) pa_nil))))) (pa_c (pe_tupS (pa_c pe_str (pa_c (pe_tupS (pa_c pe_str (pa_c pe_int pa_nil))) pa_nil))) pa_nil))))) pss_never pss_nil)
    (pss_one (ps_ret (pe_fc FSm hr37 (pa_c (pe_fc FS hr47 (pa_c (pe_tupS (pa_c (pe_ix ix_tup (pv 1) pe_int (fun _ _ => rfl)) (pa_c (pe_callTy call_tuple_ofS rfl T.tuple bTuple (pa_c (pv 7) pa_nil)) pa_nil))) (pa_c (pv 2) (pa_c pe_non (pa_c (pv 4) pa_nil))))) (pa_c pe_int pa_nil)))))), fun p n qa ts es G v0 v3 v5 v6 m mo hn N hm hmo1 hmo hT => ?_⟩
  have hn60 := N.n60
  refine ⟨_, rfl, _, _, rfl, rfl, 40 + mo, rfl, by omega, fun i ys σ G' => Same G G' ∧ ys.length = i ∧ Ties G' (n : Int) ys ∧ ∃ v0, σ = [v0, some (.ref p)], ⟨Same.refl G, rfl, (fun t ht => by cases ht), none, rfl⟩, fun i ys σ G' hi ⟨_, e, _⟩ => by omega, fun i ys σ G' hi ⟨s1, e1, hTi, v0, e⟩ => ?_, fun ys σ G1 ⟨s1, e1, hTi, _⟩ l G2 s2 hl2 => ?_⟩
  · subst e
    rw [Int.zero_add]
    have e1G := s1 _ _ N.e1
    have a1 := mod_lo (n := (i : Int)) (p := (n : Int)) (by omega)
    have a2 := mod_hi (n := (i : Int)) (p := (n : Int)) (by omega)
    have c1 := mod_lo (n := (i : Int) + 1) (p := (n : Int)) (by omega)
    have c2 := mod_hi (n := (i : Int) + 1) (p := (n : Int)) (by omega)
    have ne := next_ne (n := (i : Int)) (p := (n : Int)) (by omega)
    refine ⟨_, rfl, _, rfl, p, _, _, _, rfl, rfl, SqT.of e1G, rfl, _, _, rfl, rfl, (by show (0 : Int) < n; omega), _, rfl, _, _, rfl, rfl, _, rfl, p, _, _, _, rfl, rfl, SqT.of e1G, rfl, _, _, rfl, rfl, (by show (0 : Int) < n; omega), rfl, fun b G3 s3 hb => ⟨Same.trans s1 s3, by rw [List.length_append, e1]; rfl, fun u hu => ?_, _, rfl⟩⟩
    rcases List.mem_append.mp hu with z | z
    · exact (hTi u z).same s3
    · rw [List.mem_singleton.mp z]
      exact ⟨b, _, _, rfl, hb, a1, a2, c1, c2, Ne.symm ne⟩
  · have s02 : Same G G2 := Same.trans s1 s2
    have hT2 : TabL Pt G2 := hT.same s02
    have e1G := s02 _ _ N.e1
    refine ⟨_, rfl, p, _, _, _, rfl, rfl, SqT.of e1G, rfl, _, rfl, _, rfl, l, _, rfl, SqL.of hl2, fun l3 hl3 => ?_⟩
    have s3 : Same G2 (upd G2 l3 (.lst (cutV ys none (some 40)))) := same_new hl3
    refine ⟨l3, _, rfl, .inl upd_same, fun u G4 s4 h4 => ⟨rfl, fun p5 G5 s5 h5 => ?_⟩⟩
    have s25 : Same G2 G5 := Same.trans s3 (Same.trans s4 s5)
    have hT5 : TabL Pt G5 := hT2.same s25
    have h40 : (cutV ys none (some 40)).length = 40 := cut_40 (by omega)
    obtain ⟨es5, N5⟩ := netZ_of (n := (n : Int)) h5 (s5 _ _ h4) (by omega) (fun t ht => ((hTi t (cut_memV ht)).same (Same.trans s2 s25))) (by omega) (by omega) (Int.le_refl _)
    have hl5 : es5.length = 40 := by have := N5.len; omega
    have hg := go_zero (es := es5) (List.replicate es5.length []) (by omega)
    have hnum : num es5 (List.replicate es5.length []) 0 = 1 := by unfold num; rw [hg]
    refine ⟨_, rfl, p5, 0, mo, .non, rfl, _, u, _, es5, List.replicate es5.length [], N5, by omega, List.length_replicate .., (fun b hb => by rw [(List.mem_replicate.mp hb).2]; exact Nat.zero_le _), .inl ⟨rfl, fun b hb => (List.mem_replicate.mp hb).2⟩, hT5, fun z => absurd z (by omega), fun _ => ⟨fun hle G6 v g6 r6 => ?_, fun hgt => absurd hgt (by omega)⟩⟩
    obtain ⟨a, y, rfl, ha, hy⟩ := r6.case (by rw [hg])
    obtain ⟨c, hc, hya⟩ : ∃ c : Addr, G6 c = some (.tup [.str "stuck", .int 0]) ∧ y = .ref c := by
      have hy2 : CaseAt es5 (List.replicate es5.length []) 0 G6 es5.length (List.replicate es5.length none) y := hy
      rw [hl5] at hy2
      obtain ⟨t, ls, c, hb, hyc, hcs⟩ := hy2
      rw [best_zero es5 _ 39] at hb
      cases hb
      rcases hcs with ⟨_, h⟩ | ⟨h, _⟩
      · exact ⟨c, h, hyc⟩
      · exact absurd rfl h
    subst hya
    refine ⟨rfl, fun c' G7 s7 hc' => ⟨rfl, fun a' G8 s8 ha' => ⟨2, by decide, _, _, rfl, ?_, _, rfl, iteF ?_⟩⟩⟩
    · refine Sme.tup (s8 _ _ (s7 _ _ ha)) ha' rfl (by show 2 ≤ 1000; decide) fun i x z hu hw => ?_
      match i, hu, hw with
      | 0, hu, hw => cases hu; cases hw; exact Sme.im (.inr ⟨_, rfl⟩)
      | 1, hu, hw =>
        cases hu; cases hw
        refine Sme.tup (s8 _ _ (s7 _ _ hc)) (s8 _ _ hc') rfl (by show 2 ≤ 1000; decide) fun i x z hu hw => ?_
        match i, hu, hw with
        | 0, hu, hw => cases hu; cases hw; exact Sme.im (.inr ⟨_, rfl⟩)
        | 1, hu, hw => cases hu; cases hw; exact Sme.im (.inl ⟨_, rfl⟩)
    · have kt : KeepT G2 G8 := fun b xs e => s8 _ _ (s7 _ _ (GrL.keepT g6 hT5 _ _ (s25 _ _ e)))
      have hl8 : SqL K G8 l ys := by
        have h1 : SqL K G6 l ys := Gr.sqL g6 hT5 (SqL.of (s25 _ _ hl2))
        exact (Same.trans s7 s8).seq h1
      have hT8 : TabL Pt G8 := g6.tab.same (Same.trans s7 s8)
      have hl8' : G8 l = some (.lst ys) := s8 _ _ (s7 _ _ (g6.keep _ _ (s25 _ _ hl2) fun z => by
        obtain ⟨ps, h⟩ := TabI.tbl hT5 (show G5 Pt = some _ by rw [← z]; exact s25 _ _ hl2)
        cases h))
      refine ⟨_, rfl, p, _, _, _, rfl, rfl, SqT.of (kt _ _ e1G), rfl, _, rfl, l, ys, rfl, .inl hl8', fun u9 G9 s9 h9 => ⟨rfl, fun p9 Ga sa ha9 => ?_⟩⟩
      have kt2 : KeepT G1 Ga := fun b xs e => sa _ _ (s9 _ _ (kt _ _ (s2 _ _ e)))
      have hTa : TabL Pt Ga := hT8.same (Same.trans s9 sa)
      obtain ⟨es9, N9⟩ := netZ_of (n := (n : Int)) ha9 (sa _ _ h9) (by omega) (fun t ht => by
        obtain ⟨q, i, j, b1, b2, b3⟩ := hTi t ht
        exact ⟨q, i, j, b1, kt2 _ _ b2, b3⟩) (by omega) (by omega) (Int.le_refl _)
      have hl9 : es9.length = 40 + mo := by have := N9.len; omega
      refine ⟨_, rfl, _, rfl, p9, m, mo, .non, rfl, _, u9, _, es9, List.replicate es9.length [], N9, by omega, List.length_replicate .., (fun b hb => by rw [(List.mem_replicate.mp hb).2]; exact Nat.zero_le _), .inl ⟨rfl, fun b hb => (List.mem_replicate.mp hb).2⟩, hTa, fun _ Gb gb => ?_, fun z => absurd z (by omega)⟩
      exact ⟨0, by decide, _, _, rfl, ⟨rfl, .inl ⟨40, rfl⟩⟩, hq _⟩
end
end My
set_option Elab.async false
set_option linter.all false
set_option maxRecDepth 100000
set_option maxHeartbeats 1000000
namespace My
open PySem L2 Cs
section
variable {P : Program} {w : World} {K : PySem.W.Frag} {mg : Str → Option Value} {base : Heap} {cT Pt : Addr}
theorem GrL.seq {Pt a : Addr} {H H' : Hp} {xs : List V} (g : GrL Pt H H') (t : TabL Pt H) (h : SqL K H a xs) : SqL K H' a xs := Gr.sqL g t h
theorem ok_law {f : Addr} {fd : FuncData} (F : Fun K "law" "law" sLaw f fd) (T : Bi mg) (FD : FnE P w K mg base "_law_draw" ["_law_script", "_law_k"] 1 (spDraw K)) (FNet : FnE P w K mg base "_law_net" ["_law_script", "_law_at"] 2 (spNet K)) (FBa : FnE P w K mg base "_law_barred" ["_law_script", "_law_at", "_law_ties"] 2 (spBa K))
    (FS : FnE P w K mg base "_law_searched" pSd 47 (spSd Pt)) (FSm : FnE P w K mg base "_law_same" pSm 37 spSmA) (FDu : FnE P w K mg base "_law_due" pDu 14 spDu) (FBd : FnE P w K mg base "_law_by_default" ["_law_net_here", "_law_many"] 47 (spBd Pt)) (FAp : FnE P w K mg base "_law_apart" ["_law_script"] 2 (spAp K)) : FnOk P w K mg base CX0 50 f fd ["_law_script"] (spLaw K Pt) := by
  refine F.ok (k := 49) scLaw (fun vs H Q E h => ?_) (fun cdv A outer s H vs Q E hr h => ?_)
  · obtain ⟨a, ns, rfl, _⟩ := h
    rfl
  · obtain ⟨a, ns, rfl, hS, hl, hT, hq⟩ := h
    have hr47 : Room 47 _ := hr.mono (by decide)
    have hr37 : Room 37 _ := hr.mono (by decide)
    have hr14 : Room 14 _ := hr.mono (by decide)
    have hr2 : Room 2 _ := hr.mono (by decide)
    have hr1 : Room 1 _ := hr.mono (by decide)
    obtain ⟨t6, ht6, hend⟩ := law_end (Pt := Pt) (f := f) (cdv := cdv) (A := A) (outer := outer) (s := s) (H := H) (E := E) T hr FS FSm hq
    obtain ⟨t5, ht5, hmid⟩ : ∃ t5, PSs (cxOf CX0 P w K mg base nLaw "law" (defScope sLaw) f cdv A outer s H E).nox ((defBody sLaw).drop 5) t5 ∧ ∀ (p : Addr) (n : Nat) (qa : Addr) (ts : List V) (es : List (Nat × Nat)) (G : Hp) (v3 : Option V) (m mo : Nat), 2 ≤ n → NetZ G p n qa ts es → m ≤ 4 → 1 ≤ mo → mo ≤ 60 → TabL Pt G → SqL K G a (ns.map V.int) →
        t5 { nx := fun _ H' => Q .non H', rt := Q } [some (.ref a), some (.ref p), some (.int (m : Int)), v3, some (.int (mo : Int)), none, none, none] G := by
      refine ⟨_, pss_cons (ps_if (pt_cmpR op_eq (pe_op op_mod (pe_fc FD hr1 (pa_c (pv 0) (pa_c pe_int pa_nil))) pe_int) pe_int (nomark _))
        (pss_cons (ps_set (i := 5) scLaw.nd rfl (Or.inl rfl) (pe_fc FAp hr2 (pa_c (pv 0) pa_nil)))
        (pss_cons (ps_set (i := 6) scLaw.nd rfl (Or.inl rfl) (pe_fc FDu hr14 (pa_c (pv 5) (pa_c pe_int (pa_c (pe_callTy call_tuple_ofS rfl T.tuple bTuple (pa_c (pe_lcT blkL1 rfl (pe_ix ix_tup (pv 5) pe_int (fun _ _ => rfl)) (mono_ixT (mono_var 5) (mono_c _)) (fun C fp s H => pg_name (i := 0) ndL1 rfl (Or.inl rfl) (hf := Or.inr rfl)) (fun C fp s H => pts_nil) (fun C fp s H => pe_tupS pa_nil)) pa_nil)) (pa_c pe_int pa_nil))))))
        (pss_one (ps_if (pt_not (pt_val (pe_fc FSm hr37 (pa_c (pe_fc FBd hr47 (pa_c (pv 5) (pa_c pe_int pa_nil))) (pa_c (pv 6) pa_nil))))) pss_never pss_nil)))) pss_nil) ht6, fun p n qa ts es G v3 m mo hn N hm hmo1 hmo hTG hSG => ?_⟩
      refine ⟨_, rfl, a, ns, _, rfl, hSG, hl, by decide, by decide, _, _, rfl, rfl, (by show (0 : Int) < 8; decide), rfl, _, rfl, ?_⟩
      refine ite2 (fun _ => ?_) (fun _ => hend p n qa ts es G _ _ _ _ m mo hn N hm hmo1 hmo hTG)
      refine ⟨_, rfl, a, ns, rfl, hSG, hl, fun G1 p1 n1 q1 ts1 es1 s1 N1 he1 => ?_⟩
      have hlen := N1.len
      refine ⟨_, rfl, _, rfl, p1, _, _, _, rfl, rfl, SqT.of N1.e1, rfl, q1, ts1, rfl, SqT.of N1.e2, by omega, fun i ys σ G' => Same G1 G' ∧ RowsL G' ys (List.replicate i []) ∧ ∃ v0, σ = [v0], ⟨Same.refl _, ⟨rfl, fun i hi => absurd hi (Nat.not_lt_zero _)⟩, none, rfl⟩, fun i ys σ G' hi ⟨f1, f2, _⟩ => ⟨SqT.of (f1 _ _ N1.e2), by rw [f2.1, List.length_replicate]; exact Nat.le_refl _⟩, fun i x ys σ G' hx ⟨f1, f2, v0, f3⟩ => ?_, fun ys σ G2 ⟨f1, f2, _⟩ l G3 s3 hl3 => ?_⟩
      · subst f3
        refine ⟨rfl, fun b G5 s5 hb => ⟨Same.trans f1 s5, ?_, _, rfl⟩⟩
        rw [List.replicate_succ']
        exact (f2.keep (Same.keepT s5)).snoc (b := []) hb
      · refine ⟨l, ys, rfl, .inl hl3, fun r G4 s4 hr4 => ?_⟩
        have s14 : Same G1 G4 := Same.trans f1 (Same.trans s3 s4)
        have N4 := N1.same s14
        have RL4 := f2.keep (Same.keepT (Same.trans s3 s4))
        rw [hlen] at RL4
        have RV4 : RowsV G4 r (List.replicate es1.length []) := ⟨ys, hr4, RL4.1, RL4.2⟩
        have hb1 : ∀ b ∈ List.replicate es1.length ([] : List Nat), b.length ≤ 1000 := fun b hb => by rw [(List.mem_replicate.mp hb).2]; exact Nat.zero_le _
        refine ⟨p1, r, n1, q1, ts1, es1, List.replicate es1.length [], 2, 300, rfl, N4, he1, RV4, List.length_replicate .., hb1, by omega, fun hle G5 v s5 r5 => ?_, fun hgt G5 s5 => ?_⟩
        · have s15 := Same.trans s14 s5
          have hT5 : TabL Pt G5 := hTG.same (Same.trans s1 s15)
          refine ⟨_, rfl, p1, 2, rfl, n1, q1, ts1, es1, List.replicate es1.length [], N1.same s15, by omega, List.length_replicate .., hb1, .inl ⟨rfl, fun b hb => (List.mem_replicate.mp hb).2⟩, hT5, fun z => absurd z (by omega), fun _ => ⟨fun hle6 G6 v6 g6 r6 => ?_, fun hgt6 => absurd hgt6 (by omega)⟩⟩
          refine ⟨_, rfl, 3 * es1.length + 2, by omega, _, _, rfl, res_sme (by omega) (by omega) r6 (ResAt.keep r5 (GrL.keepT g6 hT5)), _, rfl, iteF ?_⟩
          exact hend p n qa ts es G6 _ _ _ _ m mo hn (NetZ.keepT (N.same (Same.trans s1 s15)) (GrL.keepT g6 hT5)) hm hmo1 hmo g6.tab
        · have s15 := Same.trans s14 s5
          have hT5 : TabL Pt G5 := hTG.same (Same.trans s1 s15)
          refine ⟨_, rfl, p1, 2, rfl, n1, q1, ts1, es1, List.replicate es1.length [], N1.same s15, by omega, List.length_replicate .., hb1, .inl ⟨rfl, fun b hb => (List.mem_replicate.mp hb).2⟩, hT5, fun z => absurd z (by omega), fun _ => ⟨fun hle6 => absurd hle6 (by omega), fun hgt6 G6 g6 => ?_⟩⟩
          refine ⟨_, rfl, 0, by decide, _, _, rfl, ⟨rfl, .inl ⟨300, rfl⟩⟩, _, rfl, iteF ?_⟩
          exact hend p n qa ts es G6 _ _ _ _ m mo hn (NetZ.keepT (N.same (Same.trans s1 s15)) (GrL.keepT g6 hT5)) hm hmo1 hmo g6.tab
    refine ⟨_, pss_cons (ps_set (i := 1) scLaw.nd rfl (Or.inr rfl) (pe_fc FNet hr2 (pa_c (pv 0) (pa_c pe_int pa_nil))))
      (pss_cons (ps_set (i := 2) scLaw.nd rfl (Or.inl rfl) (pe_op op_mod (pe_fc FD hr1 (pa_c (pv 0) (pa_c pe_int pa_nil))) pe_int))
      (pss_cons (ps_set (i := 3) scLaw.nd rfl (Or.inl rfl) (pe_fc FBa hr2 (pa_c (pv 0) (pa_c pe_int (pa_c (pe_callB call_len_seq rfl T.len bLen (pa_c (pe_ix ix_tup (pv 1) pe_int (fun _ _ => rfl)) pa_nil)) pa_nil)))))
      (pss_cons (ps_set (i := 4) scLaw.nd rfl (Or.inl rfl) (pe_op op_add pe_int (pe_op op_mod (pe_fc FD hr1 (pa_c (pv 0) (pa_c pe_int pa_nil))) pe_int)))
      (pss_cons (ps_if (pt_not (pt_val (pe_fc FSm hr37 (pa_c (pe_fc FS hr47 (pa_c (pv 1) (pa_c (pv 2) (pa_c (pv 3) (pa_c (pv 4) pa_nil))))) (pa_c (pe_fc FDu hr14 (pa_c (pv 1) (pa_c (pv 2) (pa_c (pv 3) (pa_c (pv 4) pa_nil))))) pa_nil))))) pss_never pss_nil)
      ht5)))), ?_⟩
    refine ⟨_, rfl, a, ns, rfl, hS, hl, fun H2 p n qa ts es s2 N n2 n6 he9 => ?_⟩
    have hT2 : TabL Pt H2 := TabI.same hT s2
    have hS2 := s2.seq hS
    have hlen := N.len
    have d1 := mod_lo (n := draw ns 0) (p := 5) (by decide)
    have d2 := mod_hi (n := draw ns 0) (p := 5) (by decide)
    obtain ⟨m, hm, hm4⟩ : ∃ m : Nat, draw ns 0 % 5 = (m : Int) ∧ m ≤ 4 := ⟨(draw ns 0 % 5).toNat, by omega, by omega⟩
    refine ⟨_, rfl, a, ns, _, rfl, hS2, hl, by decide, by decide, _, _, rfl, rfl, (by show (0 : Int) < 5; decide), ?_⟩
    dsimp only [gName]
    rw [hm]
    refine ⟨_, rfl, _, rfl, p, _, _, _, rfl, rfl, SqT.of N.e1, rfl, qa, ts, rfl, .inr (SqT.of N.e2), a, ns, es.length, (by rw [hlen]; rfl), hS2, hl, he9, fun H3 r bs s3 hbl hb1 RV => ?_⟩
    have hS3 := s3.seq hS2
    have hT3 : TabL Pt H3 := hT2.same s3
    have N3 := N.same s3
    have e1 := mod_lo (n := draw ns 1) (p := 60) (by decide)
    have e2 := mod_hi (n := draw ns 1) (p := 60) (by decide)
    obtain ⟨mo, hmo, hmo1, hmo60⟩ : ∃ mo : Nat, 1 + draw ns 1 % 60 = (mo : Int) ∧ 1 ≤ mo ∧ mo ≤ 60 := ⟨(1 + draw ns 1 % 60).toNat, by omega, by omega, by omega⟩
    refine ⟨_, rfl, a, ns, _, rfl, hS3, hl, by decide, by decide, _, _, rfl, rfl, (by show (0 : Int) < 60; decide), _, _, rfl, rfl, ?_⟩
    dsimp only [gName]
    rw [hmo]
    refine ⟨_, rfl, _, rfl, _, rfl, _, rfl, p, m, mo, .ref r, rfl, n, qa, ts, es, bs, N3, by omega, hbl, hb1, .inr ⟨r, rfl, RV⟩, hT3, fun z => absurd z (by omega), fun _ => ⟨fun hle G v g r1 => ?_, fun hgt G g => ?_⟩⟩
    · have kt := GrL.keepT g hT3
      have NG := NetZ.keepT N3 kt
      refine ⟨_, rfl, _, rfl, _, rfl, _, rfl, p, r, n, qa, ts, es, bs, m, mo, rfl, NG, he9, RV.keep kt, hbl, hb1, by omega, fun hle2 G2 v2 s4 r2 => ?_, fun hgt2 => absurd hgt2 (by omega)⟩
      refine ⟨3 * es.length + 2, by omega, _, _, rfl, res_sme (by omega) (by omega) (ResAt.keep r1 (Same.keepT s4)) r2, _, rfl, iteF ?_⟩
      exact hmid p n qa ts es G2 _ m mo n2 (NG.same s4) hm4 hmo1 hmo60 (g.tab.same s4) (s4.seq (GrL.seq g hT3 hS3))
    · have kt := GrL.keepT g hT3
      have NG := NetZ.keepT N3 kt
      refine ⟨_, rfl, _, rfl, _, rfl, _, rfl, p, r, n, qa, ts, es, bs, m, mo, rfl, NG, he9, RV.keep kt, hbl, hb1, by omega, fun hle2 => absurd hle2 (by omega), fun hgt2 G2 s4 => ?_⟩
      refine ⟨0, by decide, _, _, rfl, ⟨rfl, .inl ⟨_, rfl⟩⟩, _, rfl, iteF ?_⟩
      exact hmid p n qa ts es G2 _ m mo n2 (NG.same s4) hm4 hmo1 hmo60 (g.tab.same s4) (s4.seq (GrL.seq g hT3 hS3))
abbrev sTg : Stmt := inClass (top 5) 0
theorem scTg : FnScope ["self", "most"] ["self", "most"] (defScope sTg) := ⟨rfl, rfl, rfl, by decide +kernel, rfl, by decide +kernel, by decide +kernel⟩
theorem ok_tg {f C D : Addr} {fd : FuncData} (F : Fun K "__init__" "TooGreat.__init__" sTg f fd) (c : RX.XCl K C D) (hn : PySem.W.findIn K (.ref C) "most" = some none) : FnOk P w K mg base CX0 1 f fd ["self", "most"] (RX.spInit C "most") := by
  refine F.ok scTg (fun vs H Q E h => ?_) (fun cdv A outer s H vs Q E hr h => ?_)
  · obtain ⟨e, fv, y, rfl, _⟩ := h
    rfl
  · obtain ⟨e, fv, y, rfl, he, q⟩ := h
    refine ⟨_, pss_one (RX.ps_fldX (pv 0) (pv 1) rfl), ?_⟩
    exact ⟨_, rfl, _, rfl, e, C, D, fv, rfl, he, c, hn, fun dx h1 h2 => q dx h1 h2⟩
end
end My
set_option Elab.async false
set_option linter.all false
set_option maxRecDepth 100000
set_option maxHeartbeats 4000000
namespace My
open PySem L2
theorem hd_any {K : PySem.W.Frag} {P : Addr} (h : (K.any fun p => PySem.W.codeHdIn K p.1 P) = true) : ∃ c, PySem.W.codeHdIn K c P = true := let ⟨p, _, e⟩ := List.any_eq_true.mp h; ⟨p.1, e⟩
theorem all_mk {l : PySem.W.OpenLaw} {w : World} {K : PySem.W.Frag} {h : Heap} {mg : Str → Option Value} {fa Pt cL  f1 f2 f3 f4 f5 f6 f7 f8 f9 f10 f11 f12 f13 f14 f15 f16 f17 : Addr} (X : K.In h) (G : h.Ns mainGlobals mg) (hfa : mg "law" = some (.ref fa))
    {tA tD : Tok} {d3 : Addr} {oD : Value} {odD : Option Addr} {nD : Nat} {slD : Array (Option Value)} {cS cT cTE cM1 cM2 cM3 fI fR fL fX : Addr} {odI anI odR anR odL anL odX anX : Option Addr} {slI slR slL slX : Array (Option Value)} {ocI kVI dcI pmI cdI ctI ocR kVR dcR pmR cdR ctR ocL kVL dcL pmL ctL ocX kVX dcX pmX cdX ctX : Value} {od1 an1 od2 an2 od3 an3 od4 an4 od5 an5 od6 an6 od7 an7 od8 an8 od9 an9 od10 an10 od11 an11 od12 an12 od13 an13 od14 an14 od15 an15 od16 an16 od17 an17 : Option Addr} {sl1 sl2 sl3 sl4 sl5 sl6 sl7 sl8 sl9 sl10 sl11 sl12 sl13 sl14 sl15 sl16 sl17 : Array (Option Value)} {oc1 kV1 dc1 pm1 cd1 ct1 oc2 kV2 dc2 pm2 cd2 ct2 oc3 kV3 dc3 pm3 cd3 ct3 oc4 kV4 dc4 pm4 cd4 ct4 oc5 kV5 dc5 pm5 cd5 ct5 oc6 kV6 dc6 pm6 cd6 ct6 oc7 kV7 dc7 pm7 cd7 ct7 oc8 kV8 dc8 pm8 cd8 ct8 oc9 kV9 dc9 pm9 cd9 ct9 oc10 kV10 dc10 pm10 cd10 ct10 oc11 kV11 dc11 pm11 cd11 ct11 oc12 kV12 dc12 pm12 cd12 ct12 oc13 kV13 dc13 pm13 cd13 ct13 oc14 kV14 dc14 pm14 cd14 ct14 oc15 kV15 dc15 pm15 cd15 ct15 oc16 kV16 dc16 pm16 cd16 ct16 oc17 kV17 dc17 pm17 cd17 ct17 : Value}
    (a1 : PySem.W.nsIn K mainGlobals "ties_at" = some (some (.ref f1)))
    (l1 : K.lookup f1 = some ⟨oc1, od1, .func (PySem.W.fnOf "ties_at" "ties_at" (defArgs sAt) (defBody sAt) (defScope sAt) .none kV1 dc1 pm1 an1 cd1 ct1), sl1⟩)
    (c1' : PySem.W.codeIn K cd1 "ties_at" = true)
    (k1 : PySem.W.keepIn K (.ref f1) = true)
    (a2 : PySem.W.nsIn K mainGlobals "not_barred" = some (some (.ref f2)))
    (l2 : K.lookup f2 = some ⟨oc2, od2, .func (PySem.W.fnOf "not_barred" "not_barred" (defArgs sNb) (defBody sNb) (defScope sNb) .none kV2 dc2 pm2 an2 cd2 ct2), sl2⟩)
    (c2' : PySem.W.codeIn K cd2 "not_barred" = true)
    (k2 : PySem.W.keepIn K (.ref f2) = true)
    (a3 : PySem.W.nsIn K mainGlobals "search" = some (some (.ref f3)))
    (l3 : K.lookup f3 = some ⟨oc3, od3, .func (PySem.W.fnOf "search" "search" (defArgs sSe) (defBody sSe) (defScope sSe) (.ref d3) kV3 dc3 pm3 an3 cd3 ct3), sl3⟩)
    (c3' : PySem.W.codeIn K cd3 "search" = true)
    (k3 : PySem.W.keepIn K (.ref f3) = true)
    (a4 : PySem.W.nsIn K mainGlobals "_law_draw" = some (some (.ref f4)))
    (l4 : K.lookup f4 = some ⟨oc4, od4, .func (PySem.W.fnOf "_law_draw" "_law_draw" (defArgs sDraw) (defBody sDraw) (defScope sDraw) .none kV4 dc4 pm4 an4 cd4 ct4), sl4⟩)
    (c4' : PySem.W.codeIn K cd4 "_law_draw" = true)
    (k4 : PySem.W.keepIn K (.ref f4) = true)
    (a5 : PySem.W.nsIn K mainGlobals "_law_tie" = some (some (.ref f5)))
    (l5 : K.lookup f5 = some ⟨oc5, od5, .func (PySem.W.fnOf "_law_tie" "_law_tie" (defArgs sTie) (defBody sTie) (defScope sTie) .none kV5 dc5 pm5 an5 cd5 ct5), sl5⟩)
    (c5' : PySem.W.codeIn K cd5 "_law_tie" = true)
    (k5 : PySem.W.keepIn K (.ref f5) = true)
    (a6 : PySem.W.nsIn K mainGlobals "_law_net" = some (some (.ref f6)))
    (l6 : K.lookup f6 = some ⟨oc6, od6, .func (PySem.W.fnOf "_law_net" "_law_net" (defArgs sNet) (defBody sNet) (defScope sNet) .none kV6 dc6 pm6 an6 cd6 ct6), sl6⟩)
    (c6' : PySem.W.codeIn K cd6 "_law_net" = true)
    (k6 : PySem.W.keepIn K (.ref f6) = true)
    (a7 : PySem.W.nsIn K mainGlobals "_law_barred" = some (some (.ref f7)))
    (l7 : K.lookup f7 = some ⟨oc7, od7, .func (PySem.W.fnOf "_law_barred" "_law_barred" (defArgs sBa) (defBody sBa) (defScope sBa) .none kV7 dc7 pm7 an7 cd7 ct7), sl7⟩)
    (c7' : PySem.W.codeIn K cd7 "_law_barred" = true)
    (k7 : PySem.W.keepIn K (.ref f7) = true)
    (a8 : PySem.W.nsIn K mainGlobals "_law_left" = some (some (.ref f8)))
    (l8 : K.lookup f8 = some ⟨oc8, od8, .func (PySem.W.fnOf "_law_left" "_law_left" (defArgs sLe) (defBody sLe) (defScope sLe) .none kV8 dc8 pm8 an8 cd8 ct8), sl8⟩)
    (c8' : PySem.W.codeIn K cd8 "_law_left" = true)
    (k8 : PySem.W.keepIn K (.ref f8) = true)
    (a9 : PySem.W.nsIn K mainGlobals "_law_narrowest" = some (some (.ref f9)))
    (l9 : K.lookup f9 = some ⟨oc9, od9, .func (PySem.W.fnOf "_law_narrowest" "_law_narrowest" (defArgs sNa) (defBody sNa) (defScope sNa) .none kV9 dc9 pm9 an9 cd9 ct9), sl9⟩)
    (c9' : PySem.W.codeIn K cd9 "_law_narrowest" = true)
    (k9 : PySem.W.keepIn K (.ref f9) = true)
    (a10 : PySem.W.nsIn K mainGlobals "_law_gone" = some (some (.ref f10)))
    (l10 : K.lookup f10 = some ⟨oc10, od10, .func (PySem.W.fnOf "_law_gone" "_law_gone" (defArgs sGn) (defBody sGn) (defScope sGn) .none kV10 dc10 pm10 an10 cd10 ct10), sl10⟩)
    (c10' : PySem.W.codeIn K cd10 "_law_gone" = true)
    (k10 : PySem.W.keepIn K (.ref f10) = true)
    (a11 : PySem.W.nsIn K mainGlobals "_law_due" = some (some (.ref f11)))
    (l11 : K.lookup f11 = some ⟨oc11, od11, .func (PySem.W.fnOf "_law_due" "_law_due" (defArgs sDu) (defBody sDu) (defScope sDu) .none kV11 dc11 pm11 an11 cd11 ct11), sl11⟩)
    (c11' : PySem.W.codeIn K cd11 "_law_due" = true)
    (k11 : PySem.W.keepIn K (.ref f11) = true)
    (a12 : PySem.W.nsIn K mainGlobals "_law_same" = some (some (.ref f12)))
    (l12 : K.lookup f12 = some ⟨oc12, od12, .func (PySem.W.fnOf "_law_same" "_law_same" (defArgs sSm) (defBody sSm) (defScope sSm) .none kV12 dc12 pm12 an12 cd12 ct12), sl12⟩)
    (c12' : PySem.W.codeIn K cd12 "_law_same" = true)
    (k12 : PySem.W.keepIn K (.ref f12) = true)
    (a13 : PySem.W.nsIn K mainGlobals "_law_most_of" = some (some (.ref f13)))
    (l13 : K.lookup f13 = some ⟨oc13, od13, .func (PySem.W.fnOf "_law_most_of" "_law_most_of" (defArgs sMf) (defBody sMf) (defScope sMf) .none kV13 dc13 pm13 an13 cd13 ct13), sl13⟩)
    (c13' : PySem.W.codeIn K cd13 "_law_most_of" = true)
    (k13 : PySem.W.keepIn K (.ref f13) = true)
    (a14 : PySem.W.nsIn K mainGlobals "_law_searched" = some (some (.ref f14)))
    (l14 : K.lookup f14 = some ⟨oc14, od14, .func (PySem.W.fnOf "_law_searched" "_law_searched" (defArgs sSd) (defBody sSd) (defScope sSd) .none kV14 dc14 pm14 an14 cd14 ct14), sl14⟩)
    (c14' : PySem.W.codeIn K cd14 "_law_searched" = true)
    (k14 : PySem.W.keepIn K (.ref f14) = true)
    (a15 : PySem.W.nsIn K mainGlobals "_law_by_default" = some (some (.ref f15)))
    (l15 : K.lookup f15 = some ⟨oc15, od15, .func (PySem.W.fnOf "_law_by_default" "_law_by_default" (defArgs sBd) (defBody sBd) (defScope sBd) .none kV15 dc15 pm15 an15 cd15 ct15), sl15⟩)
    (c15' : PySem.W.codeIn K cd15 "_law_by_default" = true)
    (k15 : PySem.W.keepIn K (.ref f15) = true)
    (a16 : PySem.W.nsIn K mainGlobals "_law_apart" = some (some (.ref f16)))
    (l16 : K.lookup f16 = some ⟨oc16, od16, .func (PySem.W.fnOf "_law_apart" "_law_apart" (defArgs sAp) (defBody sAp) (defScope sAp) .none kV16 dc16 pm16 an16 cd16 ct16), sl16⟩)
    (c16' : PySem.W.codeIn K cd16 "_law_apart" = true)
    (k16 : PySem.W.keepIn K (.ref f16) = true)
    (a17 : PySem.W.nsIn K mainGlobals "law" = some (some (.ref f17)))
    (l17 : K.lookup f17 = some ⟨oc17, od17, .func (PySem.W.fnOf "law" "law" (defArgs sLaw) (defBody sLaw) (defScope sLaw) .none kV17 dc17 pm17 an17 cd17 ct17), sl17⟩)
    (c17' : PySem.W.codeIn K cd17 "law" = true)
    (k17 : PySem.W.keepIn K (.ref f17) = true)
    (hCL : PySem.W.codeHdIn K cL Pt = true)
    (hdl3 : K.lookup d3 = some ⟨oD, odD, .seq #[.none, .int 300 tD] nD, slD⟩)
    (zM : PySem.W.nsIn K mainGlobals "MOST_SEARCH_TIES" = some (some (.int 40 tA)))
    (aS : PySem.W.nsIn K mainGlobals "Search" = some (some (.ref cS)))
    (aT : PySem.W.nsIn K mainGlobals "TooGreat" = some (some (.ref cT)))
    (aTE : PySem.W.nsIn K mainGlobals "TintError" = some (some (.ref cTE)))
    (aM1 : PySem.W.nsIn K mainGlobals "NotPlain" = some (some (.ref cM1)))
    (aM2 : PySem.W.nsIn K mainGlobals "NotTwoSided" = some (some (.ref cM2)))
    (aM3 : PySem.W.nsIn K mainGlobals "TooFew" = some (some (.ref cM3)))
    (mI : PySem.W.findIn K (.ref cS) "__init__" = some (some (.ref fI)))
    (iI : PySem.W.isFn K (.ref fI) = true)
    (lI : K.lookup fI = some ⟨ocI, odI, .func (PySem.W.fnOf "__init__" "Search.__init__" (defArgs sIn) (defBody sIn) (defScope sIn) .none kVI dcI pmI anI cdI ctI), slI⟩)
    (cI' : PySem.W.codeIn K cdI "Search.__init__" = true)
    (kI : PySem.W.keepIn K (.ref fI) = true)
    (mR : PySem.W.findIn K (.ref cS) "narrowed" = some (some (.ref fR)))
    (iR : PySem.W.isFn K (.ref fR) = true)
    (lR : K.lookup fR = some ⟨ocR, odR, .func (PySem.W.fnOf "narrowed" "Search.narrowed" (defArgs sNr) (defBody sNr) (defScope sNr) .none kVR dcR pmR anR cdR ctR), slR⟩)
    (cR' : PySem.W.codeIn K cdR "Search.narrowed" = true)
    (kR : PySem.W.keepIn K (.ref fR) = true)
    (mL : PySem.W.findIn K (.ref cS) "look" = some (some (.ref fL)))
    (iL : PySem.W.isFn K (.ref fL) = true)
    (lL : K.lookup fL = some ⟨ocL, odL, .func (PySem.W.fnOf "look" "Search.look" (defArgs sLk) (defBody sLk) (defScope sLk) .none kVL dcL pmL anL (.ref cL) ctL), slL⟩)
    (cL' : PySem.W.codeIn K (.ref cL) "Search.look" = true)
    (kL : PySem.W.keepIn K (.ref fL) = true)
    (pgS : PySem.W.plainGet K cS Str.empty = true)
    (hdS : PySem.W.hasDictIn K cS = true)
    (poS : PySem.W.plainOver K cS = true)
    (saS : PySem.W.findIn K (.ref cS) "__setattr__" = some (some (.builtin "object.__setattr__")))
    (mkS : PySem.W.makesIn K cS = true)
    (kcS : PySem.W.keepIn K (.ref cS) = true)
    (n1S : PySem.W.findIn K (.ref cS) "near" = some none)
    (n2S : PySem.W.findIn K (.ref cS) "most" = some none)
    (n3S : PySem.W.findIn K (.ref cS) "looked" = some none)
    (hCxc : RX.xcIn K cT cTE = true)
    (saT : PySem.W.findIn K (.ref cT) "__setattr__" = some (some (.builtin "object.__setattr__")))
    (kpT : PySem.W.keepIn K (.ref cT) = true)
    (inT : PySem.W.findIn K (.ref cT) "__init__" = some (some (.ref fX)))
    (ifX : PySem.W.isFn K (.ref fX) = true)
    (lX : K.lookup fX = some ⟨ocX, odX, .func (PySem.W.fnOf "__init__" "TooGreat.__init__" (defArgs sTg) (defBody sTg) (defScope sTg) .none kVX dcX pmX anX cdX ctX), slX⟩)
    (cX' : PySem.W.codeIn K cdX "TooGreat.__init__" = true)
    (kX : PySem.W.keepIn K (.ref fX) = true)
    (neT : PySem.W.findIn K (.ref cT) "most" = some none)
    (xg1 : PySem.W.findIn K (.ref cT) "__getattribute__" = some (some (.builtin "BaseException.__getattribute__")))
    (xg2 : PySem.W.findIn K (.ref cT) "__getattr__" = some none)
    (xg3 : PySem.W.hasDictIn K cT = true)
    (hCx4 : PySem.W.mroIn K cT (.type "BaseException") = some true)
    (hCx5 : PySem.W.mroIn K cT (.type "object") = some true)
    (xg6 : PySem.W.findIn K (.ref cT) "__class__" = some (some (.builtin "object.__class__")))
    (xg7 : PySem.W.specialIn K (.builtin "object.__class__") "__get__" = some (some (.builtin "getset_descriptor.__get__")))
    (xg8 : PySem.W.takesIn K (.builtin "object.__class__") = some true)
    (hCke : PySem.W.kitCls K (.ref cT) (.ref cTE) = some true)
    (hCkb : PySem.W.mroIn K cTE (.type "BaseException") = some true)
    (hCkm : PySem.W.kitAny K (.ref cT) [.ref cM1, .ref cM2, .ref cM3] = some false)
    (hCk1 : PySem.W.kitOne K (.ref cT) (.ref cT) = some true)
    (z1 : PySem.W.nsIn K mainGlobals "len" = some none)
    (z2 : PySem.W.nsIn K mainGlobals "isinstance" = some none)
    (z3 : PySem.W.nsIn K mainGlobals "int" = some none)
    (z4 : PySem.W.nsIn K mainGlobals "bool" = some none)
    (z5 : PySem.W.nsIn K mainGlobals "tuple" = some none)
    (z6 : PySem.W.nsIn K mainGlobals "list" = some none)
    (z7 : PySem.W.nsIn K mainGlobals "range" = some none)
    (z8 : PySem.W.nsIn K mainGlobals "max" = some none)
    (z9 : PySem.W.nsIn K mainGlobals "min" = some none)
    (z10 : PySem.W.nsIn K mainGlobals "zip" = some none)
    (z11 : PySem.W.nsIn K mainGlobals "dict" = some none)
    (z12 : PySem.W.nsIn K mainGlobals "enumerate" = some none)
    (z13 : PySem.W.nsIn K mainGlobals "str" = some none)
    : ∃ fd : FuncData, (∀ (s : Shared) (v : Value), BindsTo s fd ⟨[v], []⟩ [("_law_script", v)]) ∧ ∀ base : Heap, K.In base → base.Ns mainGlobals mg → BM mg base → FnOk l.prog w K mg base CX0 50 fa fd ["_law_script"] (spLaw K Pt) := by
  have e := hfa.symm.trans (PySem.W.mg_of X G a17)
  cases e
  have F1 := fun_mk (st := sAt) l1 c1' k1
  have F2 := fun_mk (st := sNb) l2 c2' k2
  have F3 : FunD K "search" "search" sSe f3 _ := ⟨⟨oc3, od3, .ref d3, kV3, dc3, pm3, an3, cd3, ct3, sl3, rfl, l3, c3'⟩⟩
  have F4 := fun_mk (st := sDraw) l4 c4' k4
  have F5 := fun_mk (st := sTie) l5 c5' k5
  have F6 := fun_mk (st := sNet) l6 c6' k6
  have F7 := fun_mk (st := sBa) l7 c7' k7
  have F8 := fun_mk (st := sLe) l8 c8' k8
  have F9 := fun_mk (st := sNa) l9 c9' k9
  have F10 := fun_mk (st := sGn) l10 c10' k10
  have F11 := fun_mk (st := sDu) l11 c11' k11
  have F12 := fun_mk (st := sSm) l12 c12' k12
  have F13 := fun_mk (st := sMf) l13 c13' k13
  have F14 := fun_mk (st := sSd) l14 c14' k14
  have F15 := fun_mk (st := sBd) l15 c15' k15
  have F16 := fun_mk (st := sAp) l16 c16' k16
  have F17 := fun_mk (st := sLaw) l17 c17' k17
  have b1 := F1.binds (ps := ["net", "point"]) fun _ _ _ _ _ _ us hl => match us, hl with | [_, _], _ => rfl
  have b2 := F2.binds (ps := ["many", "row"]) fun _ _ _ _ _ _ us hl => match us, hl with | [_, _], _ => rfl
  have b3 : Binds K (PySem.W.fnOf "search" "search" (defArgs sSe) (defBody sSe) (defScope sSe) (.ref d3) kV3 dc3 pm3 an3 cd3 ct3) ["net", "many", "barred", "most"] [] := fun s us X hl => by
    rw [List.append_nil] at hl ⊢
    match us, hl with
    | [u0, u1, u2, u3], _ => exact PySem.W.binds_K X rfl hdl3 rfl rfl rfl
  have b4 := F4.binds (ps := ["_law_script", "_law_k"]) fun _ _ _ _ _ _ us hl => match us, hl with | [_, _], _ => rfl
  have b5 := F5.binds (ps := ["_law_number", "_law_k", "_law_points", "_law_kind"]) fun _ _ _ _ _ _ us hl => match us, hl with | [_, _, _, _], _ => rfl
  have b6 := F6.binds (ps := ["_law_script", "_law_at"]) fun _ _ _ _ _ _ us hl => match us, hl with | [_, _], _ => rfl
  have b7 := F7.binds (ps := ["_law_script", "_law_at", "_law_ties"]) fun _ _ _ _ _ _ us hl => match us, hl with | [_, _, _], _ => rfl
  have b8 := F8.binds (ps := ["_law_net_here", "_law_tints", "_law_many", "_law_kept_off", "_law_tie_here"]) fun _ _ _ _ _ _ us hl => match us, hl with | [_, _, _, _, _], _ => rfl
  have b9 := F9.binds (ps := ["_law_net_here", "_law_tints", "_law_many", "_law_kept_off"]) fun _ _ _ _ _ _ us hl => match us, hl with | [_, _, _, _], _ => rfl
  have b10 := F10.binds (ps := ["_law_net_here", "_law_tints", "_law_many", "_law_kept_off", "_law_room_left"]) fun _ _ _ _ _ _ us hl => match us, hl with | [_, _, _, _, _], _ => rfl
  have b11 := F11.binds (ps := ["_law_net_here", "_law_many", "_law_kept_off", "_law_at_most"]) fun _ _ _ _ _ _ us hl => match us, hl with | [_, _, _, _], _ => rfl
  have b12 := F12.binds (ps := ["_law_found", "_law_due_here"]) fun _ _ _ _ _ _ us hl => match us, hl with | [_, _], _ => rfl
  have b13 := F13.binds (ps := ["_law_kept"]) fun _ _ _ _ _ _ us hl => match us, hl with | [_], _ => rfl
  have b14 := F14.binds (ps := ["_law_net_here", "_law_many", "_law_kept_off", "_law_at_most"]) fun _ _ _ _ _ _ us hl => match us, hl with | [_, _, _, _], _ => rfl
  have b15 := F15.binds (ps := ["_law_net_here", "_law_many"]) fun _ _ _ _ _ _ us hl => match us, hl with | [_, _], _ => rfl
  have b16 := F16.binds (ps := ["_law_script"]) fun _ _ _ _ _ _ us hl => match us, hl with | [_], _ => rfl
  have T : Bi mg := ⟨PySem.W.mg_none_of X G z1, PySem.W.mg_none_of X G z2, PySem.W.mg_none_of X G z3, PySem.W.mg_none_of X G z4, PySem.W.mg_none_of X G z5, PySem.W.mg_none_of X G z6, PySem.W.mg_none_of X G z7, PySem.W.mg_none_of X G z8, PySem.W.mg_none_of X G z9, PySem.W.mg_none_of X G z10, PySem.W.mg_none_of X G z11⟩
  have g1 := PySem.W.mg_of X G a1
  have g2 := PySem.W.mg_of X G a2
  have g3 := PySem.W.mg_of X G a3
  have g4 := PySem.W.mg_of X G a4
  have g5 := PySem.W.mg_of X G a5
  have g6 := PySem.W.mg_of X G a6
  have g7 := PySem.W.mg_of X G a7
  have g8 := PySem.W.mg_of X G a8
  have g9 := PySem.W.mg_of X G a9
  have g10 := PySem.W.mg_of X G a10
  have g11 := PySem.W.mg_of X G a11
  have g12 := PySem.W.mg_of X G a12
  have g13 := PySem.W.mg_of X G a13
  have g14 := PySem.W.mg_of X G a14
  have g15 := PySem.W.mg_of X G a15
  have g16 := PySem.W.mg_of X G a16
  refine ⟨PySem.W.fnOf "law" "law" (defArgs sLaw) (defBody sLaw) (defScope sLaw) .none kV17 dc17 pm17 an17 cd17 ct17, fun s v => .of_eq rfl, fun base _ _ hbm => ?_⟩
  have E1 : FnE l.prog w K mg base "ties_at" ["net", "point"] 1 spAt := ⟨⟨f1, _, ok_at F1 T (PySem.W.mg_none_of X G z12), g1, k1, b1⟩⟩
  have E2 : FnE l.prog w K mg base "not_barred" ["many", "row"] 1 spNb := ⟨⟨f2, _, ok_nb F2 T, g2, k2, b2⟩⟩
  have FX := fun_mk (st := sTg) lX cX' kX
  have bX := FX.binds (ps := ["self", "most"]) fun _ _ _ _ _ _ us hl => match us, hl with | [_, _], _ => rfl
  have XC : RX.XCl K cT cTE := ⟨hCxc, saT, kpT⟩
  have GR : Grt l.prog w K mg base cT := ⟨⟨cTE, fX, _, XC, inT, ifX, ok_tg FX XC neT, bX⟩, (PySem.W.mg_of X G aT)⟩
  have S : SrC K cS := ⟨⟨pgS, hdS, poS, saS⟩, n1S, n2S, n3S⟩
  have FI := fun_mk (st := sIn) lI cI' kI
  have bI := FI.binds (ps := ["self", "net", "most"]) fun _ _ _ _ _ _ us hl => match us, hl with | [_, _, _], _ => rfl
  have FR := fun_mk (st := sNr) lR cR' kR
  have bR := FR.binds (ps := ["self", "left", "tie", "tint"]) fun _ _ _ _ _ _ us hl => match us, hl with | [_, _, _, _], _ => rfl
  have FL := fun_mk (st := sLk) lL cL' kL
  have bL := FL.binds (ps := ["self", "tints", "left"]) fun _ _ _ _ _ _ us hl => match us, hl with | [_, _, _], _ => rfl
  have FLc : FunC K "look" "Search.look" sLk fL _ cL := ⟨ocL, odL, kVL, dcL, pmL, anL, ctL, slL, rfl, lL, cL'⟩
  have OI := ok_in (P := l.prog) (w := w) (mg := mg) (base := base) FI T S E1
  have MN : MeE l.prog w K mg base cS "narrowed" ["self", "left", "tie", "tint"] 1 (spNr cS) := ⟨⟨fR, _, ok_nr FR T S, ⟨mR, iR, kR⟩, S.cl, bR⟩⟩
  have OL := fun es bs m n => ok_look (Pt := Pt) FLc T S GR hbm hCL ⟨mL, iL, kL⟩ bL MN es bs m n
  have OS := ok_se (Pt := Pt) F3 T (PySem.W.mg_none_of X G z12) S GR (PySem.W.mg_of X G zM) (PySem.W.mg_of X G aS) ⟨mkS, mI, iI, kcS⟩ OI bI E2 ⟨mL, iL, kL⟩ bL OL
  have b3d : Binds K (PySem.W.fnOf "search" "search" (defArgs sSe) (defBody sSe) (defScope sSe) (.ref d3) kV3 dc3 pm3 an3 cd3 ct3) ["net", "many", "barred", "most"] [.none, .int 300 tD] := fun s us X hl => by
    have hl2 : us.length = 2 := by simpa using hl
    match us, hl2 with
    | [u0, u1], _ => exact PySem.W.binds_K X rfl hdl3 rfl rfl rfl
  have KC : Kinds K mg cT := ⟨⟨cTE, cM1, cM2, cM3, (PySem.W.mg_of X G aTE), (PySem.W.mg_of X G aM1), (PySem.W.mg_of X G aM2), (PySem.W.mg_of X G aM3), hCke, hCkb, hCkm⟩, hCk1, ⟨xg1, xg2, xg3, hCx4, hCx5, xg6, xg7, xg8⟩, neT⟩
  have b3k : KBinds K (PySem.W.fnOf "search" "search" (defArgs sSe) (defBody sSe) (defScope sSe) (.ref d3) kV3 dc3 pm3 an3 cd3 ct3) ["net", "many", "barred", "most"] ["most", "barred"] kwG kwV := ⟨fun s us ws X hl => (by
    match us, ws, hl with
    | [u0, u1], [w0, w1], _ => exact PySem.W.binds_K X rfl hdl3 rfl rfl rfl
    | [], _, hl => cases hl
    | [_], _, hl => cases hl
    | _ :: _ :: _ :: _, _, hl => cases hl
    | [_, _], [], hl => cases hl
    | [_, _], [_], hl => cases hl
    | [_, _], _ :: _ :: _ :: _, hl => cases hl), kw_rel⟩
  have E4 : FnE l.prog w K mg base "_law_draw" ["_law_script", "_law_k"] 1 (spDraw K) := ⟨⟨f4, _, ok_draw F4 T, g4, k4, b4⟩⟩
  have E5 : FnE l.prog w K mg base "_law_tie" ["_law_number", "_law_k", "_law_points", "_law_kind"] 1 spTie := ⟨⟨f5, _, ok_tie F5 T, g5, k5, b5⟩⟩
  have E6 : FnE l.prog w K mg base "_law_net" ["_law_script", "_law_at"] 2 (spNet K) := ⟨⟨f6, _, ok_net F6 T E4 E5, g6, k6, b6⟩⟩
  have E7 : FnE l.prog w K mg base "_law_barred" ["_law_script", "_law_at", "_law_ties"] 2 (spBa K) := ⟨⟨f7, _, ok_ba F7 T E4, g7, k7, b7⟩⟩
  have E8 : FnE l.prog w K mg base "_law_left" ["_law_net_here", "_law_tints", "_law_many", "_law_kept_off", "_law_tie_here"] 1 spLe := ⟨⟨f8, _, ok_le F8 T, g8, k8, b8⟩⟩
  have E9 : FnE l.prog w K mg base "_law_narrowest" ["_law_net_here", "_law_tints", "_law_many", "_law_kept_off"] 2 spNa := ⟨⟨f9, _, ok_na F9 T E8, g9, k9, b9⟩⟩
  have E10 : FnE l.prog w K mg base "_law_gone" ["_law_net_here", "_law_tints", "_law_many", "_law_kept_off", "_law_room_left"] 13 spGnA := ⟨⟨f10, _, ok_gn F10 T E9 g10 k10 b10, g10, k10, b10⟩⟩
  have E11 : FnE l.prog w K mg base "_law_due" ["_law_net_here", "_law_many", "_law_kept_off", "_law_at_most"] 14 spDu := ⟨⟨f11, _, ok_du F11 T E10, g11, k11, b11⟩⟩
  have E12 : FnE l.prog w K mg base "_law_same" ["_law_found", "_law_due_here"] 37 spSmA := ⟨⟨f12, _, ok_sm F12 T (PySem.W.mg_none_of X G z13) g12 k12 b12, g12, k12, b12⟩⟩
  have E13 : FnE l.prog w K mg base "_law_most_of" ["_law_kept"] 1 (spMf cT) := ⟨⟨f13, _, ok_mf F13 T KC (PySem.W.mg_of X G aT), g13, k13, b13⟩⟩
  have E14 : FnE l.prog w K mg base "_law_searched" ["_law_net_here", "_law_many", "_law_kept_off", "_law_at_most"] 47 (spSd Pt) := ⟨⟨f14, _, ok_sd F14 T KC E13 OS g3 k3 b3 b3k, g14, k14, b14⟩⟩
  have E15 : FnE l.prog w K mg base "_law_by_default" ["_law_net_here", "_law_many"] 47 (spBd Pt) := ⟨⟨f15, _, ok_bd F15 T KC E13 OS g3 k3 b3d, g15, k15, b15⟩⟩
  have E16 : FnE l.prog w K mg base "_law_apart" ["_law_script"] 2 (spAp K) := ⟨⟨f16, _, ok_ap F16 T E4, g16, k16, b16⟩⟩
  exact ok_law F17 T E4 E6 E7 E14 E12 E11 E15 E16
theorem walk {l : PySem.W.OpenLaw} {q : Program} {loose : List Str} {XP : (Str → Option Value) → Heap → Prop} {YP : World → Heap → Prop} {d : DefRec} {K : Params → PySem.W.Frag} {Pt : Addr} (hn : l.most = some 63) (hdf : d.params.defaults = [])
    (hY : ∀ (w : World) (h : Heap), YP w h → (K w.params).In h) (hY2 : ∀ (w : World) (h : Heap), YP w h → ∀ Q ∈ [Pt], h.get? Q = some (PySem.W.tabObj #[])) (hKn : ∀ w : World, PySem.W.noTabs (K w.params) = true) (hC : ∀ w : World, ∀ Q ∈ [Pt], ∃ c, PySem.W.codeHdIn (K w.params) c Q = true)
    (F : ∀ (w : World) (mg : Str → Option Value) (fa : Addr) (h : Heap), (K w.params).In h → h.Ns mainGlobals mg → mg d.name = some (.ref fa) →
      ∃ fd : FuncData, (∀ (s : Shared) (u : Value), BindsTo s fd ⟨[u], []⟩ [("_law_script", u)]) ∧ ∀ base : Heap, (K w.params).In base → base.Ns mainGlobals mg → BM mg base → FnOk l.prog w (K w.params) mg base CX0 50 fa fd ["_law_script"] (spLaw (K w.params) Pt)) :
    PySem.W.WalkO q loose XP YP l.row.toRowW d [] (fun f vs => PySem.call f vs) :=
  walk_ofT (n := 63) (k := 50) (x := "_law_script") (ts := [Pt]) (sp := fun K => spLaw K Pt) hn (by decide) hdf ⟨rfl, by decide, by decide⟩ hY hY2 hKn hC F
    (fun K H a ns hl hT hS => ⟨a, ns, rfl, hS, hl, .inl (hT Pt (.head _)), fun _ => rfl⟩)
end My
set_option Elab.async false
open PySem PySem.W PyProof.Rows
def PySem.W.Fast.tw1431879178255495532 : Unit := ()
def PySem.W.Fast.tw15901536076291500485 : Unit := ()
def PySem.W.Fast.tw9328338514682504852 : Unit := ()
def PySem.W.Fast.tw6453859264727794193 : Unit := ()
def PySem.W.Fast.tw14731097087990802073 : Unit := ()
def PySem.W.Fast.tw2371944336797168868 : Unit := ()
def PySem.W.Fast.tw983411007099953799 : Unit := ()
def PySem.W.Fast.tw2474207527123056656 : Unit := ()
def PySem.W.Fast.tw1249460234693250037 : Unit := ()
def PySem.W.Fast.tw9929617223603466008 : Unit := ()
def PySem.W.Fast.tw5599103504553611907 : Unit := ()
def PySem.W.Fast.tw5662816565634193271 : Unit := ()
def PySem.W.Fast.tw7241832300623065440 : Unit := ()
def PySem.W.Fast.tw6768551280786139934 : Unit := ()
def PySem.W.Fast.tw4139277049082638573 : Unit := ()
def PySem.W.Fast.tw7870683239950797827 : Unit := ()
def PySem.W.Fast.tw17078685270443824256 : Unit := ()
def PySem.W.Fast.tw12008156092999382547 : Unit := ()
def PySem.W.Fast.tw3081996350948498860 : Unit := ()
def PySem.W.Fast.tw17566420413893835213 : Unit := ()
def PySem.W.Fast.tw3348048840064155103 : Unit := ()
def PySem.W.Fast.tw14912616297841082662 : Unit := ()
def PySem.W.Fast.tw6170395633480967405 : Unit := ()
def PySem.W.Fast.tw12679870487591388642 : Unit := ()
def PySem.W.Fast.tw6877519408978867287 : Unit := ()
def PySem.W.Fast.tw1668601189259391245 : Unit := ()
def PySem.W.Fast.tw8027251857564812600 : Unit := ()
def PySem.W.Fast.tw17848253260732822364 : Unit := ()
def PySem.W.Fast.tw16670195409933855820 : Unit := ()
def PySem.W.Fast.tw6890392023385240161 : Unit := ()
def PySem.W.Fast.tw10329862960104647870 : Unit := ()
def PySem.W.Fast.tw13609116995703029815 : Unit := ()
def PySem.W.Fast.tw14615206952272735361 : Unit := ()
def PySem.W.Fast.tw16376092720736736480 : Unit := ()
def PySem.W.Fast.tw592453168555365034 : Unit := ()
def PySem.W.Fast.tw15070855913300843199 : Unit := ()
def PySem.W.Fast.tw6024191137150655879 : Unit := ()
def PySem.W.Fast.tw3955218654361026626 : Unit := ()
def PySem.W.Fast.tw1591729382040243201 : Unit := ()
def PySem.W.Fast.tw11566456643994716279 : Unit := ()
def PySem.W.Fast.tw14898953317398053276 : Unit := ()
def PySem.W.Fast.tw3722740978727032045 : Unit := ()
def PySem.W.Fast.tw1364061721859018529 : Unit := ()
def PySem.W.Fast.tw4554112125574393909 : Unit := ()
def PySem.W.Fast.tw4180430285859048871 : Unit := ()
def PySem.W.Fast.tw8443386220672793136 : Unit := ()
def PySem.W.Fast.tw12425012793504667083 : Unit := ()
set_option maxRecDepth 100000 in
set_option maxHeartbeats 0 in
theorem PySem.Challenge.cw_tintties_k63_searches_by_rule_holds : PySem.Challenge.rw_tintties_k63_searches_by_rule.Holds := by
  w_on; o_law; k_head; (case hw => w_witness2)
  k_fill
  refine My.walk (l := PySem.Challenge.rw_tintties_k63_searches_by_rule) rfl rfl (fun w h Y => PySem.W.km_in_of Y) (fun w h Y => PySem.W.km_tabs_of Y) ?n ?c ?F
  case n => intro w; kernel_rfl
  case c =>
    intro w Q hQ
    simp only [List.mem_cons, List.not_mem_nil, or_false] at hQ
    rcases hQ with rfl
    all_goals (refine My.hd_any ?_; kernel_rfl)
  case F =>
    intro w mg fa h KX G hmg
    refine' My.all_mk KX G hmg ?a1 ?l1 ?c1p ?k1 ?a2 ?l2 ?c2p ?k2 ?a3 ?l3 ?c3p ?k3 ?a4 ?l4 ?c4p ?k4 ?a5 ?l5 ?c5p ?k5 ?a6 ?l6 ?c6p ?k6 ?a7 ?l7 ?c7p ?k7 ?a8 ?l8 ?c8p ?k8 ?a9 ?l9 ?c9p ?k9 ?a10 ?l10 ?c10p ?k10 ?a11 ?l11 ?c11p ?k11 ?a12 ?l12 ?c12p ?k12 ?a13 ?l13 ?c13p ?k13 ?a14 ?l14 ?c14p ?k14 ?a15 ?l15 ?c15p ?k15 ?a16 ?l16 ?c16p ?k16 ?a17 ?l17 ?c17p ?k17 ?hCL ?hdl3 ?zM ?aS ?aT ?aTE ?aM1 ?aM2 ?aM3 ?mI ?iI ?lI ?cIp ?kI ?mR ?iR ?lR ?cRp ?kR ?mL ?iL ?lL ?cLp ?kL ?pgS ?hdS ?poS ?saS ?mkS ?kcS ?n1S ?n2S ?n3S ?hCxc ?saT ?kpT ?inT ?ifX ?lX ?cXp ?kX ?neT ?xg1 ?xg2 ?xg3 ?hCx4 ?hCx5 ?xg6 ?xg7 ?xg8 ?hCke ?hCkb ?hCkm ?hCk1 ?z1 ?z2 ?z3 ?z4 ?z5 ?z6 ?z7 ?z8 ?z9 ?z10 ?z11 ?z12 ?z13
    (case a1 => k_is); (case l1 => k_is); (case c1p => k_is); (case k1 => k_is)
    (case a2 => k_is); (case l2 => k_is); (case c2p => k_is); (case k2 => k_is)
    (case a3 => k_is); (case l3 => k_is); (case c3p => k_is); (case k3 => k_is)
    (case a4 => k_is); (case l4 => k_is); (case c4p => k_is); (case k4 => k_is)
    (case a5 => k_is); (case l5 => k_is); (case c5p => k_is); (case k5 => k_is)
    (case a6 => k_is); (case l6 => k_is); (case c6p => k_is); (case k6 => k_is)
    (case a7 => k_is); (case l7 => k_is); (case c7p => k_is); (case k7 => k_is)
    (case a8 => k_is); (case l8 => k_is); (case c8p => k_is); (case k8 => k_is)
    (case a9 => k_is); (case l9 => k_is); (case c9p => k_is); (case k9 => k_is)
    (case a10 => k_is); (case l10 => k_is); (case c10p => k_is); (case k10 => k_is)
    (case a11 => k_is); (case l11 => k_is); (case c11p => k_is); (case k11 => k_is)
    (case a12 => k_is); (case l12 => k_is); (case c12p => k_is); (case k12 => k_is)
    (case a13 => k_is); (case l13 => k_is); (case c13p => k_is); (case k13 => k_is)
    (case a14 => k_is); (case l14 => k_is); (case c14p => k_is); (case k14 => k_is)
    (case a15 => k_is); (case l15 => k_is); (case c15p => k_is); (case k15 => k_is)
    (case a16 => k_is); (case l16 => k_is); (case c16p => k_is); (case k16 => k_is)
    (case a17 => k_is); (case l17 => k_is); (case c17p => k_is); (case k17 => k_is)
    (case hCL => kernel_rfl); (case hdl3 => k_is); (case zM => k_is); (case aS => k_is)
    (case aT => k_is); (case aTE => k_is); (case aM1 => k_is); (case aM2 => k_is)
    (case aM3 => k_is); (case mI => k_is); (case iI => k_is); (case lI => k_is)
    (case cIp => k_is); (case kI => k_is); (case mR => k_is); (case iR => k_is)
    (case lR => k_is); (case cRp => k_is); (case kR => k_is); (case mL => k_is)
    (case iL => k_is); (case lL => k_is); (case cLp => k_is); (case kL => k_is)
    (case pgS => k_is); (case hdS => k_is); (case poS => k_is); (case saS => k_is)
    (case mkS => k_is); (case kcS => k_is); (case n1S => k_is); (case n2S => k_is)
    (case n3S => k_is); (case hCxc => kernel_rfl); (case saT => k_is); (case kpT => k_is)
    (case inT => k_is); (case ifX => k_is); (case lX => k_is); (case cXp => k_is)
    (case kX => k_is); (case neT => k_is); (case xg1 => k_is); (case xg2 => k_is)
    (case xg3 => k_is); (case hCx4 => kernel_rfl); (case hCx5 => kernel_rfl); (case xg6 => k_is)
    (case xg7 => k_is); (case xg8 => k_is); (case hCke => kernel_rfl); (case hCkb => kernel_rfl)
    (case hCkm => kernel_rfl); (case hCk1 => kernel_rfl); (case z1 => k_is); (case z2 => k_is)
    (case z3 => k_is); (case z4 => k_is); (case z5 => k_is); (case z6 => k_is)
    (case z7 => k_is); (case z8 => k_is); (case z9 => k_is); (case z10 => k_is)
    (case z11 => k_is); (case z12 => k_is); (case z13 => k_is)
#print axioms PySem.Challenge.cw_tintties_k63_searches_by_rule_holds
