import PyProof.Rows.All
import Wide.All
import OpenK.AllK
import Wide.FinOn
import Lean
import PyProof.EqAt
import PyProof.EqKinds
import PyProof.TupleCall
import PySem.SetTable
import PySem.SetOps
import PyProof.Rows.SetFrom
import PyProof.NeKinds
import PyProof.Rows.StrInSeq3
import PyProof.AttrMissHeap
import PyProof.Rows.SeqMore
import PyProof.Rows.SeqMore2
import PySem.Challenge.RW_tintties_k82_no_text
set_option Elab.async false
set_option linter.all false
set_option maxRecDepth 100000
namespace L2
open PySem PySem.Spec PyProof.Rows
abbrev Key := Sum Int Str
def keyIs : Key → Value → Bool
  | .inl k, v => Value.isInt k v
  | .inr x, v => Value.isStrOf x v
def keyH (w : World) : Key → Int
  | .inl k => hashInt k
  | .inr x => hashStr w x
theorem keyIs_shape : ∀ {k : Key} {v : Value}, keyIs k v = true → (∃ i t, k = Sum.inl i ∧ v = Value.int i t) ∨ (∃ x t, k = Sum.inr x ∧ v = Value.str x t)
  | .inl i, v, h => by
    obtain ⟨t, e⟩ := Value.isInt_shape (k := i) (v := v) h
    exact .inl ⟨i, t, rfl, e⟩
  | .inr x, v, h => by
    obtain ⟨t, e⟩ := Value.isStrOf_shape (x := x) (v := v) h
    exact .inr ⟨x, t, rfl, e⟩
theorem keyIs_int (i : Int) (t : Tok) : keyIs (.inl i) (.int i t) = true := by simp [keyIs, Value.isInt]
theorem keyIs_str (x : Str) (t : Tok) : keyIs (.inr x) (.str x t) = true := by simp [keyIs, Value.isStrOf]
theorem key_ll (a b : Int) : decide ((Sum.inl a : Key) = Sum.inl b) = (a == b) := by
  by_cases e : a = b
  · subst e; simp
  · have h : ¬ (Sum.inl a : Key) = Sum.inl b := fun q => e (Sum.inl.inj q)
    rw [decide_eq_false h]
    exact (beq_eq_false_iff_ne.mpr e).symm
theorem key_rr (a b : Str) : decide ((Sum.inr a : Key) = Sum.inr b) = decide (a = b) := by
  by_cases e : a = b
  · subst e; simp
  · have h : ¬ (Sum.inr a : Key) = Sum.inr b := fun q => e (Sum.inr.inj q)
    rw [decide_eq_false h, decide_eq_false e]
theorem key_lr (a : Int) (b : Str) : decide ((Sum.inl a : Key) = Sum.inr b) = false := decide_eq_false (fun q => nomatch q)
theorem key_rl (a : Str) (b : Int) : decide ((Sum.inr a : Key) = Sum.inl b) = false := decide_eq_false (fun q => nomatch q)
def mixKind (prog : Program) (w : World) : PySem.KeyKind prog w Key where
  is := keyIs
  hash := keyH w
  inj := fun v a b ha hb => by
    rcases keyIs_shape ha with ⟨i, t, rfl, rfl⟩ | ⟨x, t, rfl, rfl⟩
    · rcases keyIs_shape hb with ⟨j, u, rfl, e⟩ | ⟨y, u, rfl, e⟩
      · injection e with e1 _; rw [e1]
      · exact nomatch e
    · rcases keyIs_shape hb with ⟨j, u, rfl, e⟩ | ⟨y, u, rfl, e⟩
      · exact nomatch e
      · injection e with e1 _; rw [e1]
  byValue := fun k v h => by
    rcases keyIs_shape h with ⟨i, t, rfl, rfl⟩ | ⟨x, t, rfl, rfl⟩ <;> rfl
  pyHash := fun hv h => by
    rcases keyIs_shape hv with ⟨i, t, rfl, rfl⟩ | ⟨x, t, rfl, rfl⟩
    · exact wpAny_pyHash_int h
    · exact wpAny_pyHash_str h
  eqBool := fun hu hv h => by
    rcases keyIs_shape hu with ⟨i, t, rfl, rfl⟩ | ⟨x, t, rfl, rfl⟩
    · rcases keyIs_shape hv with ⟨j, u, rfl, rfl⟩ | ⟨y, u, rfl, rfl⟩
      · rw [key_ll] at h; exact wpAny_eqBool_int h
      · rw [key_lr] at h; exact SeqAt.EqAt.int_str i t y u _ _ _ _ h
    · rcases keyIs_shape hv with ⟨j, u, rfl, rfl⟩ | ⟨y, u, rfl, rfl⟩
      · rw [key_rl] at h; exact SeqAt.EqAt.str_int x t j u _ _ _ _ h
      · rw [key_rr] at h; exact wpAny_eqBool_str h
  «strs» := fun k x t v h => by
    rcases keyIs_shape h with ⟨i, u, rfl, e⟩ | ⟨y, u, rfl, e⟩
    · exact nomatch e
    · injection e with e1 _
      subst e1
      cases v <;> rfl
theorem mixKind_int (prog : Program) (w : World) (i : Int) (t : Tok) : (mixKind prog w).is (.inl i) (.int i t) = true := keyIs_int i t
theorem mixKind_str (prog : Program) (w : World) (x : Str) (t : Tok) : (mixKind prog w).is (.inr x) (.str x t) = true := keyIs_str x t
end L2
namespace L2
open PySem PySem.Spec PyProof.Rows
inductive V where
  | non | bl (b : Bool) | int (i : Int) | str (x : Str) | byt (b : Array UInt8) | flt (b : UInt64) | ref (a : Addr) | ty (n : String)
  deriving DecidableEq
def RelV : V → Value → Prop
  | .non, u => u = Value.none
  | .bl b, u => u = Value.bool b
  | .int i, u => ∃ t, u = Value.int i t
  | .str x, u => ∃ t, u = Value.str x t
  | .byt b, u => ∃ t, u = Value.bytes b t
  | .flt b, u => ∃ t, u = Value.float b t
  | .ref a, u => u = Value.ref a
  | .ty n, u => u = Value.type n
abbrev Vals : List V → List Value → Prop := Paired RelV
theorem Vals.length {xs : List V} {us : List Value} (r : Vals xs us) : xs.length = us.length := Paired.length r
theorem Vals.get : ∀ {xs : List V} {us : List Value} {i : Nat} {x : V}, Vals xs us → xs[i]? = some x → ∃ u, us[i]? = some u ∧ RelV x u
  | _, _, _, _, .nil, e => by simp at e
  | _, _, 0, _, .cons r _, e => by simp at e; subst e; exact ⟨_, rfl, r⟩
  | _, _, i + 1, x, .cons _ t, e => by
    obtain ⟨u, h1, h2⟩ := Vals.get (i := i) (x := x) t (by simpa using e)
    exact ⟨u, by simpa using h1, h2⟩
theorem Vals.set {x : V} {u : Value} (r : RelV x u) : ∀ {xs : List V} {us : List Value} (i : Nat), Vals xs us → Vals (xs.set i x) (us.set i u)
  | _, _, _, .nil => .nil
  | _, _, 0, .cons _ t => .cons r t
  | _, _, i + 1, .cons q t => .cons q (Vals.set r i t)
theorem Vals.append : ∀ {xs ys : List V} {us ws : List Value}, Vals xs us → Vals ys ws → Vals (xs ++ ys) (us ++ ws)
  | _, _, _, _, .nil, s => s
  | _, _, _, _, .cons r t, s => .cons r (Vals.append t s)
theorem Vals.take : ∀ {xs : List V} {us : List Value} (n : Nat), Vals xs us → Vals (xs.take n) (us.take n)
  | _, _, 0, _ => .nil
  | _, _, _ + 1, .nil => .nil
  | _, _, n + 1, .cons r t => .cons r (Vals.take n t)
theorem Vals.drop : ∀ {xs : List V} {us : List Value} (n : Nat), Vals xs us → Vals (xs.drop n) (us.drop n)
  | _, _, 0, r => r
  | _, _, _ + 1, .nil => .nil
  | _, _, n + 1, .cons _ t => Vals.drop n t
def RelO : Option V → Option Value → Prop
  | some v, some u => RelV v u
  | none, none => True
  | _, _ => False
def KV {κ : Type} : List (κ × V) → List (κ × Value) → Prop := Paired fun (p : κ × V) (q : κ × Value) => p.1 = q.1 ∧ RelV p.2 q.2
def kV : Key → V
  | .inl i => .int i
  | .inr x => .str x
inductive HO where
  | lst (xs : List V)
  | tup (xs : List V)
  | dK (kvs : List (Key × V)) | dT (kvs : List (List Key × V))
  | set (S : Int → Bool) (n : Nat)
  | ins (C dx : Addr) (fs : List (Str × V))
  | own (x : Addr)
  | xd (fs : List (Str × V))
  | met (f x : Addr)
  | rng (lo hi : Int)
  | frz (o : Obj) (u : HO)
  | tbl (ps : Array Value)
  | ext (φ : Heap → Prop)
abbrev Hp := Addr → Option HO
def upd (H : Hp) (a : Addr) (o : HO) : Hp := fun b => if b = a then some o else H b
theorem upd_same {H : Hp} {a : Addr} {o : HO} : upd H a o a = some o := by unfold upd; rw [if_pos rfl]
theorem upd_ne {H : Hp} {a b : Addr} {o : HO} (h : b ≠ a) : upd H a o b = H b := by unfold upd; rw [if_neg h]
theorem ne_of_none {H : Hp} {a b : Addr} {o : HO} (h : H a = some o) (h' : H b = none) : a ≠ b := by
  intro e; subst e; rw [h] at h'; cases h'
section
variable (P : Program) (w : World)
def ObjOk (H : Hp) (h : Heap) (a : Addr) : HO → Prop
  | .lst xs => xs.length ≤ sizeLine ∧ ∃ (its : List Value) (n : Nat), Vals xs its ∧ h.get? a = some { cls := .type "list", data := .seq its.toArray n }
  | .tup xs => xs.length ≤ sizeLine ∧ ∃ its : List Value, Vals xs its ∧ IsTup h a its.toArray
  | .dK kvs => kvs.length ≤ sizeLine ∧ (a == sysModules) = false ∧ ∃ vs, KV kvs vs ∧ h.DictOf (mixKind P w) a vs
  | .dT kvs => kvs.length ≤ sizeLine ∧ (a == sysModules) = false ∧ ∃ xs : List (List Key × Addr × Value),
      Paired (fun (p : List Key × V) (q : List Key × Addr × Value) => p.1 = q.1 ∧ H q.2.1 = some (.tup (p.1.map kV)) ∧ RelV p.2 q.2.2) kvs xs ∧
      ∃ o es ep, h.get? a = some o ∧ o.ExactDict ∧ o.data = .dict es ep ∧ es.toList = xs.map (entryOfKey (tupleKind (mixKind P w))) ∧ (xs.map (·.1)).Nodup
  | .set S n => h.SetOf (intKind P w) a S n
  | .ins C dx fs => H dx = some (.own a) ∧ fs.length ≤ 1000 ∧ dx ≠ a ∧ h.get? a = some (PySem.W.instObj C dx) ∧
      ∃ mA, h.Ns1 dx mA ∧ (∀ f, RelO (fs.lookup f) (mA f)) ∧ PySem.Within mA (fs.map (·.1))
  | .own _ => ∃ o, h.get? a = some o
  | .xd fs => ∃ mA, h.Ns1 a mA ∧ ∀ f, RelO (fs.lookup f) (mA f)
  | .rng lo hi => ∃ t u v, h.get? a = some { cls := .type "range", data := .fields #[.int lo t, .int hi u, .int 1 v] }
  | .frz o u => h.get? a = some o ∧ ObjOk H h a u
  | .tbl ps => h.get? a = some { cls := .none, data := .fields ps }
  | .met f x => h.get? a = some (PySem.W.methodObj (.ref f) (.ref x))
  | .ext φ => φ h ∧ (∃ o, h.get? a = some o) ∧ ∀ h1 h2 : Heap, φ h1 → (∀ o, h1.get? a = some o → h2.get? a = some o) → φ h2
def HOk (H : Hp) (h : Heap) : Prop := ∀ a o, H a = some o → ObjOk P w H h a o
end
section
variable {P : Program} {w : World} {H H' : Hp} {h h' : Heap} {a : Addr} {o : HO}
theorem ObjOk.lt (x : ObjOk P w H h a o) : a < h.objs.size := by
  cases o with
  | lst xs => obtain ⟨_, _, _, _, e⟩ := x; exact Heap.lt_size e
  | tup xs => obtain ⟨_, _, _, p⟩ := x; exact p.lt
  | dK kvs => obtain ⟨_, _, _, _, o, _, _, e, _⟩ := x; exact Heap.lt_size e
  | dT kvs => obtain ⟨_, _, _, _, o, _, _, e, _⟩ := x; exact Heap.lt_size e
  | set S n => obtain ⟨o, _, _, _, e, _⟩ := x; exact Heap.lt_size e
  | ins C dx fs => obtain ⟨_, _, _, e, _⟩ := x; exact Heap.lt_size e
  | own y => obtain ⟨_, e⟩ := x; exact Heap.lt_size e
  | xd fs => obtain ⟨_, ⟨_, _, _, e, _⟩, _⟩ := x; exact Heap.lt_size e
  | rng lo hi => obtain ⟨_, _, _, e⟩ := x; exact Heap.lt_size e
  | frz ob u => obtain ⟨e, _⟩ := x; exact Heap.lt_size e
  | tbl ps => exact Heap.lt_size (show h.get? a = some _ from x)
  | met f y => exact Heap.lt_size (show h.get? a = some _ from x)
  | ext φ => obtain ⟨_, ⟨_, e⟩, _⟩ := x; exact Heap.lt_size e
theorem Paired.mapP {α β : Type} {F G : α → β → Prop} : ∀ {l₁ : List α} {l₂ : List β}, Paired F l₁ l₂ → (∀ a b, F a b → G a b) → Paired G l₁ l₂
  | _, _, .nil, _ => .nil
  | _, _, .cons r t, f => .cons (f _ _ r) (Paired.mapP t f)
theorem ObjOk.stay (x : ObjOk P w H h a o) (k : ∀ b u, (b = a ∨ H b = some (.own a)) → h.get? b = some u → h'.get? b = some u)
    (ho : ∀ b, H b = some (.own a) → H' b = some (.own a)) (ht : ∀ b xs, H b = some (.tup xs) → H' b = some (.tup xs)) : ObjOk P w H' h' a o := by
  induction o with
  | lst xs => obtain ⟨z, its, n, r, e⟩ := x; exact ⟨z, its, n, r, k _ _ (.inl rfl) e⟩
  | tup xs => obtain ⟨z, its, r, ob, e, c⟩ := x; exact ⟨z, its, r, ob, k _ _ (.inl rfl) e, c⟩
  | dK kvs => obtain ⟨z, y, vs, r, ob, es, ep, e, c⟩ := x; exact ⟨z, y, vs, r, ob, es, ep, k _ _ (.inl rfl) e, c⟩
  | dT kvs =>
    obtain ⟨z, y, xs, r, ob, es, ep, e, c⟩ := x
    exact ⟨z, y, xs, Paired.mapP r fun p q z => ⟨z.1, ht _ _ z.2.1, z.2.2⟩, ob, es, ep, k _ _ (.inl rfl) e, c⟩
  | set S n => obtain ⟨ob, es, ep, t, e, c⟩ := x; exact ⟨ob, es, ep, t, k _ _ (.inl rfl) e, c⟩
  | ins C dx fs =>
    obtain ⟨d, z, ne, e, mA, ⟨od, es, ep, e2, c⟩, r⟩ := x
    exact ⟨ho _ d, z, ne, k _ _ (.inl rfl) e, mA, ⟨od, es, ep, k _ _ (.inr d) e2, c⟩, r⟩
  | own y => obtain ⟨ob, e⟩ := x; exact ⟨ob, k _ _ (.inl rfl) e⟩
  | xd fs => obtain ⟨mA, ⟨od, es, ep, e, c⟩, r⟩ := x; exact ⟨mA, ⟨od, es, ep, k _ _ (.inl rfl) e, c⟩, r⟩
  | rng lo hi => obtain ⟨t, u, v, e⟩ := x; exact ⟨t, u, v, k _ _ (.inl rfl) e⟩
  | frz ob u ih => obtain ⟨e, q⟩ := x; exact ⟨k _ _ (.inl rfl) e, ih q⟩
  | tbl ps =>
    have e : h.get? a = some { cls := .none, data := .fields ps } := x
    show h'.get? a = some { cls := .none, data := .fields ps }
    exact k a _ (.inl rfl) e
  | met f y =>
    have e : h.get? a = some (PySem.W.methodObj (.ref f) (.ref y)) := x
    show h'.get? a = some (PySem.W.methodObj (.ref f) (.ref y))
    exact k a _ (.inl rfl) e
  | ext φ => obtain ⟨p, ⟨o, e⟩, st⟩ := x; exact ⟨st _ _ p fun o q => k _ _ (.inl rfl) q, ⟨o, k _ _ (.inl rfl) e⟩, st⟩
theorem HOk.lt (x : HOk P w H h) (e : H a = some o) : a < h.objs.size := (x a o e).lt
theorem HOk.fresh (x : HOk P w H h) (e : h.objs.size ≤ a) : H a = none := by
  cases q : H a with
  | none => rfl
  | some u => exact absurd (Nat.lt_of_lt_of_le (x.lt q) e) (Nat.lt_irrefl _)
theorem HOk.kept (x : HOk P w H h) (k : ∀ b u, h.get? b = some u → h'.get? b = some u) : HOk P w H h' := fun a o e =>
  (x a o e).stay (fun b u _ q => k b u q) (fun _ q => q) fun _ _ q => q
theorem HOk.laid (x : HOk P w H h) (k : ∀ b u, h.get? b = some u → h'.get? b = some u) (hp : h.objs.size ≤ a) (new : ObjOk P w (upd H a o) h' a o) : HOk P w (upd H a o) h' := fun b u e => by
  have hn := x.fresh hp
  by_cases hb : b = a
  · subst hb; rw [upd_same] at e; cases e; exact new
  · rw [upd_ne hb] at e
    exact (x b u e).stay (fun c v _ q => k c v q) (fun c q => by rw [upd_ne (ne_of_none q hn)]; exact q) fun c xs q => by rw [upd_ne (ne_of_none q hn)]; exact q
end
def Rd (H : Hp) (a : Addr) (u : HO) : Prop := H a = some u ∨ ∃ o, H a = some (.frz o u)
theorem Rd.ok {P : Program} {w : World} {H : Hp} {h : Heap} {a : Addr} {u : HO} (r : Rd H a u) (x : HOk P w H h) : ObjOk P w H h a u := by
  rcases r with r | ⟨o, r⟩
  · exact x a u r
  · obtain ⟨_, q⟩ := x a _ r
    exact q
def Mut : Option HO → Prop
  | some (.lst _) => True
  | some (.dK _) => True
  | some (.dT _) => True
  | some (.set _ _) => True
  | some (.ins _ _ _) => True
  | some (.ext _) => True
  | _ => False
section
variable {P : Program} {w : World} {H : Hp} {h h' : Heap} {x e : Addr} {o' : HO}
theorem HOk.write (ok : HOk P w H h) (mu : Mut (H x)) (he : e = x ∨ H e = some (.own x)) (k : ∀ b u, b ≠ e → h.get? b = some u → h'.get? b = some u) (heo : ∃ u, h'.get? e = some u)
    (new : ObjOk P w (upd H x o') h' x o') : HOk P w (upd H x o') h' := fun b u q => by
  have nown : ∀ c y, H c = some (.own y) → c ≠ x := fun c y r z => by subst z; rw [r] at mu; exact mu
  have ntup : ∀ c xs, H c = some (.tup xs) → c ≠ x := fun c xs r z => by subst z; rw [r] at mu; exact mu
  by_cases hb : b = x
  · subst hb; rw [upd_same] at q; cases q; exact new
  · rw [upd_ne hb] at q
    by_cases hbe : b = e
    · have q' : H b = some (.own x) := by
        rcases he with z | z
        · exact absurd (hbe.trans z) hb
        · rw [hbe]; exact z
      rw [q] at q'; cases q'
      obtain ⟨v, hv⟩ := heo
      exact ⟨v, by rw [hbe]; exact hv⟩
    · refine (ok b u q).stay (fun c v hc r => k c v ?_ r) (fun c r => by rw [upd_ne (nown c b r)]; exact r) fun c xs r => by rw [upd_ne (ntup c xs r)]; exact r
      rcases hc with rfl | hc
      · exact hbe
      · rintro rfl
        rcases he with z | z
        · exact nown c b hc z
        · rw [hc] at z; cases z; exact hb rfl
end
structure Un (fs ex : List Addr) (H H' : Hp) (h h' : Heap) : Prop where
  keep : ∀ b o, h.get? b = some o → H b = none → b ∉ fs → b ∉ ex → h'.get? b = some o
  slot : ∀ b o, h.get? b = some o → H b = none → b ∈ fs → b ∉ ex → ∃ sl, h'.get? b = some { o with slots := sl }
  free : ∀ b o, h.get? b = some o → H b = none → b ∉ ex → H' b = none
  there : ∀ b o, h.get? b = some o → b ∉ ex → ∃ o', h'.get? b = some o'
  tups : ∀ b xs, H b = some (.tup xs) → H' b = some (.tup xs)
  frzs : ∀ b o u, H b = some (.frz o u) → H' b = some (.frz o u)
  tbls : ∀ b ps, H b = some (.tbl ps) → ∃ more, H' b = some (.tbl (ps ++ more))
section
variable {fs fs' ex ex' : List Addr} {H H1 H2 : Hp} {h h1 h2 h' : Heap} {a x e : Addr} {o : HO}
theorem Un.any (u : Un fs ex H H1 h h1) {b : Addr} {ob : Obj} (q : h.get? b = some ob) (n : H b = none) (hx : b ∉ ex) : ∃ sl, h1.get? b = some { ob with slots := sl } := by
  by_cases hb : b ∈ fs
  · exact u.slot b ob q n hb hx
  · exact ⟨ob.slots, u.keep b ob q n hb hx⟩
theorem Un.trans (a : Un fs ex H H1 h h1) (b : Un fs ex H1 H2 h1 h2) : Un fs ex H H2 h h2 where
  keep := fun c ob q n hc hx => b.keep c ob (a.keep c ob q n hc hx) (a.free c ob q n hx) hc hx
  slot := fun c ob q n hc hx => by
    obtain ⟨sl, e1⟩ := a.slot c ob q n hc hx
    obtain ⟨sl', e2⟩ := b.slot c _ e1 (a.free c ob q n hx) hc hx
    exact ⟨sl', e2⟩
  free := fun c ob q n hx => by
    obtain ⟨o', e1⟩ := a.there c ob q hx
    exact b.free c o' e1 (a.free c ob q n hx) hx
  there := fun c ob q hx => by
    obtain ⟨o', e1⟩ := a.there c ob q hx
    exact b.there c o' e1 hx
  tups := fun c xs q => b.tups c xs (a.tups c xs q)
  frzs := fun c ob xs q => b.frzs c ob xs (a.frzs c ob xs q)
  tbls := fun c ps q => by
    obtain ⟨m1, e1⟩ := a.tbls c ps q
    obtain ⟨m2, e2⟩ := b.tbls c _ e1
    exact ⟨m1 ++ m2, by rw [e2, Array.append_assoc]⟩
theorem Un.kept (k : ∀ b u, h.get? b = some u → h'.get? b = some u) : Un fs ex H H h h' :=
  ⟨fun b ob q _ _ _ => k b ob q, fun b ob q _ _ _ => ⟨ob.slots, k b ob q⟩, fun _ _ _ n _ => n, fun b ob q _ => ⟨ob, k b ob q⟩, fun _ _ q => q, fun _ _ _ q => q, fun _ ps q => ⟨#[], by rw [q]; simp⟩⟩
theorem Un.refl : Un fs ex H H h h := Un.kept fun _ _ q => q
theorem Un.laid (k : ∀ b u, h.get? b = some u → h'.get? b = some u) (hp : h.objs.size ≤ a) (hn : H a = none) : Un fs ex H (upd H a o) h h' where
  keep := fun b u q _ _ _ => k b u q
  slot := fun b u q _ _ _ => ⟨u.slots, k b u q⟩
  free := fun b u q n _ => by rw [upd_ne (Nat.ne_of_lt (Nat.lt_of_lt_of_le (Heap.lt_size q) hp))]; exact n
  there := fun b u q _ => ⟨u, k b u q⟩
  tups := fun b xs q => by rw [upd_ne (ne_of_none q hn)]; exact q
  frzs := fun b u xs q => by rw [upd_ne (ne_of_none q hn)]; exact q
  tbls := fun b ps q => ⟨#[], by rw [upd_ne (ne_of_none q hn), q]; simp⟩
theorem Un.write (mu : Mut (H x)) (he : e = x ∨ H e = some (.own x)) (k : ∀ b u, b ≠ e → h.get? b = some u → h'.get? b = some u) (heo : ∃ u, h'.get? e = some u) : Un fs ex H (upd H x o) h h' := by
  have hx : ∀ b, H b = none → b ≠ x := fun b n z => by subst z; rw [n] at mu; exact mu
  have hb : ∀ b, H b = none → b ≠ e := fun b n z => by
    subst z
    rcases he with r | r
    · exact hx b n r
    · rw [n] at r; cases r
  have hm : ∀ b u, H b = some u → ¬ Mut (some u) → b ≠ x := fun b u q nm z => by subst z; rw [q] at mu; exact nm mu
  refine ⟨fun b u q n _ _ => k b u (hb b n) q, fun b u q n _ _ => ⟨u.slots, k b u (hb b n) q⟩, fun b u q n _ => by rw [upd_ne (hx b n)]; exact n, fun b u q _ => ?_,
    fun b xs q => by rw [upd_ne (hm b _ q fun z => z)]; exact q, fun b u xs q => by rw [upd_ne (hm b _ q fun z => z)]; exact q, fun b ps q => ⟨#[], by rw [upd_ne (hm b _ q fun z => z), q]; simp⟩⟩
  by_cases hbe : b = e
  · subst hbe; exact heo
  · exact ⟨u, k b u hbe q⟩
theorem Un.mono (u : Un fs ex H H1 h h1) (hs : ∀ b ∈ fs, b ∈ fs') (hx : ∀ b ∈ ex, b ∈ ex') : Un fs' ex' H H1 h h1 :=
  ⟨fun b ob q n hb he => u.keep b ob q n (fun z => hb (hs b z)) fun z => he (hx b z), fun _ _ q n _ he => u.any q n fun z => he (hx _ z), fun b ob q n he => u.free b ob q n fun z => he (hx b z), fun b ob q he => u.there b ob q fun z => he (hx b z), u.tups, u.frzs, u.tbls⟩
end
def trk (h : Heap) (H : Hp) : List Addr := (List.range h.objs.size).filter fun a => (H a).isSome
def hidT (h : Heap) (H : Hp) : Heap := PySem.W.hideAll h (trk h H)
theorem hidT_size (h : Heap) (H : Hp) : (hidT h H).objs.size = h.objs.size := PySem.W.hideAll_size _ _
theorem hidT_get {h : Heap} {H : Hp} {b : Addr} {o : Obj} (e : h.get? b = some o) (n : H b = none) : (hidT h H).get? b = some o :=
  PySem.W.hideAll_get _ e fun hm => by
    have q : (H b).isSome = true := (List.mem_filter.mp hm).2
    rw [n] at q; simp at q
theorem of_hidT {h : Heap} {H : Hp} {b : Addr} {o : Obj} (e : (hidT h H).get? b = some o) : h.get? b = some o ∧ H b = none := by
  have e' : h.get? b = some o := PySem.W.of_hideAll (trk h H) e
  refine ⟨e', ?_⟩
  cases q : H b with
  | none => rfl
  | some x =>
    have hm : b ∈ trk h H := List.mem_filter.mpr ⟨List.mem_range.mpr (Heap.lt_size e'), by simp [q]⟩
    have z : (hidT h H).get? b = none := PySem.W.hideAll_none (trk h H) hm
    rw [z] at e; cases e
def allNews (g h : Heap) (L : Addr) : List (Addr × Obj) := (List.range h.objs.size).filterMap fun a => if a = L ∨ (g.get? a).isSome = true then none else (h.get? a).map fun o => (a, o)
def rest (g h : Heap) (L d : Addr) : List (Addr × Obj) := (allNews g h L).filter fun p => decide (p.1 ≠ d)
end L2
namespace L2
open PySem PySem.Spec PyProof.Rows
structure Mod (K : PySem.W.Frag) (mg : Str → Option Value) (base : Heap) : Prop where
  kin : K.In base
  glob : base.Ns mainGlobals mg
  blt : ∃ mb, base.Ns builtinsNs mb ∧ ∀ x : Str, x ≠ "__name__" → mb x = bootBuiltins x
  nolimit : base.NoLimit
structure Cx where
  prog : Program
  w : World
  K : PySem.W.Frag
  mg : Str → Option Value
  base : Heap
  A : Around
  N : List Str
  s₀ : Shared
  H₀ : Hp
  env : Env
  outer : List Env
  stack : List Env
  ex : List Addr
  fn : Str → Bool
  calm : Bool
  pn : List (Addr × Obj)
  xe : Value → Shared → Prop
def frs (l : List Env) : List Addr := l.filterMap (·.frame)
abbrev Cx.fs (X : Cx) : List Addr := frs X.outer
def Vis (sc : Scope) (x : Str) : Prop := sc.names.lookup x = some .local ∨ sc.names.lookup x = some .cell ∨ sc.names.lookup x = some .free
def Loc (sc : Scope) (x : Str) : Prop := sc.names.lookup x = some .local ∨ sc.names.lookup x = some .cell
def Look (env : Env) (h : Heap) (m : Str → Option Value) (x : Str) (u : Value) : Prop :=
  (env.kindOf x = some .local ∧ m x = some u) ∨ ((env.kindOf x = some .cell ∨ env.kindOf x = some .free) ∧ ∃ c, env.cells.lookup x = some c ∧ h.IsCell c (some u))
structure Cx.Ok (X : Cx) : Prop where
  mod : Mod X.K X.mg X.base
  kind : X.env.scope.kind = .function
  glob : X.env.globals = mainGlobals
  blt : X.env.builtins = builtinsNs
  above : X.s₀.heap.objs.size ≤ X.env.locals
  inj : ∀ x y c, X.env.cells.lookup x = some c → X.env.cells.lookup y = some c → x = y
  has : ∀ x, (X.env.kindOf x = some .cell ∨ X.env.kindOf x = some .free) → ∃ c, X.env.cells.lookup x = some c
  cab : ∀ x c, X.fn x = true → X.env.cells.lookup x = some c → X.s₀.heap.objs.size ≤ c
  hd : X.calm = true → X.A.handled = none
  frames : X.A.frames = some X.stack
  stk : X.stack = X.outer ∨ (X.stack = X.env :: X.outer ∧ X.env.frame = some X.env.locals)
  exf : ∀ b ∈ X.ex, b ≠ X.env.locals ∧ ∀ x c, X.env.cells.lookup x = some c → c ≠ b
  bs : ∀ b o, X.base.get? b = some o → X.s₀.heap.get? b = some o ∧ X.H₀ b = none
  bsz : X.base.objs.size ≤ X.s₀.heap.objs.size
  noex : ∀ b o, X.base.get? b = some o → b ∉ X.ex
  exfs : ∀ b ∈ X.ex, b ∉ X.fs
  funs : X.s₀.heap.FunFrames X.base X.outer
  frf : ∀ b ∈ X.fs, X.H₀ b = none
structure Inv (X : Cx) (pins : List (Addr × Obj)) (σ : List (Option V)) (H : Hp) (s : Shared) : Prop where
  ok : X.Ok
  os : s.os = X.s₀.os
  bare : AllBare s.gens
  base : Un X.fs X.ex X.H₀ H X.s₀.heap s.heap
  loc : ∃ m, s.heap.Ns X.env.locals m ∧ ∀ (i : Nat) (x : Str) (v : V), X.N[i]? = some x → σ[i]? = some (some v) → Vis X.env.scope x → ∃ u, RelV v u ∧ Look X.env s.heap m x u
  cell : ∀ x c, X.env.cells.lookup x = some c → ∃ v, s.heap.IsCell c v
  free : H X.env.locals = none
  freeC : ∀ x c, X.env.cells.lookup x = some c → H c = none
  pin : ∀ p ∈ X.pn ++ pins, s.heap.get? p.1 = some p.2 ∧ H p.1 = none ∧ p.1 ≠ X.env.locals ∧ p.1 ∉ X.fs ∧ ∀ v, p.2.data ≠ .cell v
  hok : HOk X.prog X.w H s.heap
  len : σ.length = X.N.length
section
variable {X : Cx} {pins : List (Addr × Obj)} {σ : List (Option V)} {H H' : Hp} {s : Shared} {h' : Heap}
theorem Cx.Ok.nofr (ok : X.Ok) {b : Addr} {o : Obj} (e : X.base.get? b = some o) : b ∉ X.fs := fun hb => by
  have := (ok.funs.mem hb).1
  rw [e] at this; cases this
theorem Inv.bs (I : Inv X pins σ H s) : ∀ b o, X.base.get? b = some o → s.heap.get? b = some o ∧ H b = none := fun b o e =>
  ⟨I.base.keep b o (I.ok.bs b o e).1 (I.ok.bs b o e).2 (I.ok.nofr e) (I.ok.noex b o e), I.base.free b o (I.ok.bs b o e).1 (I.ok.bs b o e).2 (I.ok.noex b o e)⟩
theorem Inv.bk (I : Inv X pins σ H s) : ∀ b o, X.base.get? b = some o → s.heap.get? b = some o := fun b o e => (I.bs b o e).1
theorem Inv.mod (I : Inv X pins σ H s) : Mod X.K X.mg X.base := I.ok.mod
theorem Inv.kIn (I : Inv X pins σ H s) : X.K.In s.heap := I.ok.mod.kin.keeps I.bk
theorem Inv.nolimit (I : Inv X pins σ H s) : s.heap.NoLimit := I.ok.mod.nolimit.keeps I.bk
theorem Inv.fr (I : Inv X pins σ H s) : ∃ m, Fr X.base X.env.locals s.heap m :=
  let ⟨m, hn, _⟩ := I.loc
  ⟨m, hn, I.bk, Nat.le_trans I.ok.bsz I.ok.above⟩
theorem Inv.lt (I : Inv X pins σ H s) : X.env.locals < s.heap.objs.size := let ⟨_, hn, _⟩ := I.loc; hn.lt
theorem Inv.sz (I : Inv X pins σ H s) : X.s₀.heap.objs.size ≤ s.heap.objs.size := Nat.le_trans I.ok.above (Nat.le_of_lt I.lt)
theorem Inv.nofs (I : Inv X pins σ H s) {a : Addr} (h : s.heap.objs.size ≤ a) : a ∉ X.fs := fun hb => by
  obtain ⟨_, o, ho, _⟩ := I.ok.funs.mem hb
  exact absurd (Nat.lt_of_lt_of_le (Heap.lt_size ho) (Nat.le_trans I.sz h)) (Nat.lt_irrefl _)
theorem Inv.cne (I : Inv X pins σ H s) : ∀ x c, X.env.cells.lookup x = some c → c ≠ X.env.locals := fun x c e z => by
  obtain ⟨v, o, ho, hd⟩ := I.cell x c e
  obtain ⟨m, ⟨o', es, ep, ho', hd', _⟩, _⟩ := I.loc
  rw [z, ho'] at ho; cases ho; rw [hd'] at hd; cases hd
theorem Inv.funs (I : Inv X pins σ H s) : s.heap.FunFrames X.base X.outer := by
  have all : ∀ (l : List Env), (∀ b ∈ frs l, b ∈ X.fs) → X.s₀.heap.FunFrames X.base l → s.heap.FunFrames X.base l := by
    intro l
    induction l with
    | nil => intro _ _; trivial
    | cons env r ih =>
      intro hs hl
      obtain ⟨hk, ⟨L, o, hf, hn, ho, hd⟩, hr⟩ := hl
      have hL : L ∈ X.fs := hs L (by unfold frs; rw [List.filterMap_cons, hf]; exact List.mem_cons_self)
      obtain ⟨sl, e⟩ := I.base.slot L o ho (I.ok.frf L hL) hL fun z => I.ok.exfs L z hL
      exact ⟨hk, ⟨L, _, hf, hn, e, hd⟩, ih (fun b hb => hs b (by unfold frs; rw [List.filterMap_cons, hf]; exact List.mem_cons_of_mem _ hb)) hr⟩
  exact all X.outer (fun _ hb => hb) I.ok.funs
theorem Inv.stack (I : Inv X pins σ H s) : s.heap.FunFrames X.base X.stack := by
  rcases I.ok.stk with e | ⟨e, hf⟩
  · rw [e]; exact I.funs
  · rw [e]
    obtain ⟨m, hn, _⟩ := I.loc
    refine .cons (by rw [I.ok.kind]; decide) hf hn ?_ I.funs
    exact Heap.get?_none_of_le (Nat.le_trans I.ok.bsz I.ok.above)
theorem Inv.stkSub (I : Inv X pins σ H s) : ∀ b ∈ frs X.stack, b ∈ X.env.locals :: X.fs := fun b hb => by
  rcases I.ok.stk with e | ⟨e, hf⟩
  · rw [e] at hb; exact List.mem_cons_of_mem _ hb
  · rw [e] at hb
    unfold frs at hb
    rw [List.filterMap_cons, hf] at hb
    exact hb
theorem Inv.stkFree (I : Inv X pins σ H s) : ∀ b ∈ frs X.stack, H b = none := fun b hb => by
  rcases List.mem_cons.mp (I.stkSub b hb) with e | hb
  · rw [e]; exact I.free
  · obtain ⟨_, o, ho, _⟩ := I.ok.funs.mem hb
    exact I.base.free b o ho (I.ok.frf b hb) fun z => I.ok.exfs b z hb
theorem Inv.step {g' : Array GenState} {t' : Nat} {d' : Drawn} {ch : List Addr} (I : Inv X pins σ H s)
    (hch : ∀ b ∈ ch, (b ∈ X.ex ∨ X.s₀.heap.objs.size ≤ b) ∧ b ≠ X.env.locals ∧ (∀ x c, X.env.cells.lookup x = some c → c ≠ b) ∧ ∀ p ∈ X.pn ++ pins, p.1 ≠ b)
    (keep : ∀ b o, b ≠ X.env.locals → b ∉ X.fs → b ∉ ch → s.heap.get? b = some o → H b = none → h'.get? b = some o)
    (slot : ∀ b o, b ≠ X.env.locals → b ∈ X.fs → b ∉ ch → s.heap.get? b = some o → H b = none → ∃ sl, h'.get? b = some { o with slots := sl }) (free : ∀ b o, b ∉ ch → s.heap.get? b = some o → H b = none → H' b = none)
    (there : ∀ b o, b ∉ ch → s.heap.get? b = some o → ∃ o', h'.get? b = some o')
    (tups : ∀ b xs, H b = some (.tup xs) → H' b = some (.tup xs)) (frzs : ∀ b o u, H b = some (.frz o u) → H' b = some (.frz o u)) (tbls : ∀ b ps, H b = some (.tbl ps) → ∃ more, H' b = some (.tbl (ps ++ more)))
    (ns : ∀ m, s.heap.Ns X.env.locals m → h'.Ns X.env.locals m) (hok : HOk X.prog X.w H' h') (hg : AllBare g') :
    Inv X pins σ H' { s with heap := h', gens := g', drawn := d', toks := t' } := by
  have neL : ∀ b o, X.s₀.heap.get? b = some o → b ≠ X.env.locals := fun b o e => Nat.ne_of_lt (Nat.lt_of_lt_of_le (Heap.lt_size e) I.ok.above)
  have neC : ∀ b o, X.s₀.heap.get? b = some o → b ∉ X.ex → b ∉ ch := fun b o e hx hb => by
    rcases (hch b hb).1 with z | z
    · exact hx z
    · exact absurd (Nat.lt_of_lt_of_le (Heap.lt_size e) z) (Nat.lt_irrefl _)
  have cellK : ∀ x c, X.env.cells.lookup x = some c → ∀ v, s.heap.IsCell c v → h'.IsCell c v := fun x c e v ⟨o, ho, hd⟩ => by
    have nch : c ∉ ch := fun z => (hch c z).2.2.1 x c e rfl
    by_cases hc : c ∈ X.fs
    · obtain ⟨sl, q⟩ := slot c o (I.cne x c e) hc nch ho (I.freeC x c e)
      exact ⟨_, q, hd⟩
    · exact ⟨o, keep c o (I.cne x c e) hc nch ho (I.freeC x c e), hd⟩
  refine ⟨I.ok, I.os, hg, ⟨fun b o e n hb hx => ?_, fun b o e n hb hx => ?_, fun b o e n hx => ?_, fun b o e hx => ?_, fun b xs e => tups b xs (I.base.tups b xs e), fun b o xs e => frzs b o xs (I.base.frzs b o xs e), fun b ps e => ?_⟩, ?_, fun x c e => ?_, ?_, fun x c e => ?_, fun p hp => ?_, hok, I.len⟩
  · exact keep b o (neL b o e) hb (neC b o e hx) (I.base.keep b o e n hb hx) (I.base.free b o e n hx)
  · obtain ⟨sl, e1⟩ := I.base.slot b o e n hb hx
    obtain ⟨sl', e2⟩ := slot b _ (neL b o e) hb (neC b o e hx) e1 (I.base.free b o e n hx)
    exact ⟨sl', e2⟩
  · obtain ⟨o', e1⟩ := I.base.there b o e hx
    exact free b o' (neC b o e hx) e1 (I.base.free b o e n hx)
  · obtain ⟨o', e1⟩ := I.base.there b o e hx
    exact there b o' (neC b o e hx) e1
  · obtain ⟨m1, e1⟩ := I.base.tbls b ps e
    obtain ⟨m2, e2⟩ := tbls b _ e1
    exact ⟨m1 ++ m2, by rw [e2, Array.append_assoc]⟩
  · obtain ⟨m, hn, hl⟩ := I.loc
    refine ⟨m, ns m hn, fun i x v e1 e2 e3 => ?_⟩
    obtain ⟨u, r, l⟩ := hl i x v e1 e2 e3
    refine ⟨u, r, ?_⟩
    rcases l with l | ⟨k, c, e, z⟩
    · exact .inl l
    · exact .inr ⟨k, c, e, cellK x c e _ z⟩
  · obtain ⟨v, z⟩ := I.cell x c e
    exact ⟨v, cellK x c e v z⟩
  · obtain ⟨m, ⟨o, _, _, ho, _⟩, _⟩ := I.loc
    exact free _ o (fun z => (hch _ z).2.1 rfl) ho I.free
  · obtain ⟨v, o, ho, hd⟩ := I.cell x c e
    exact free c o (fun z => (hch c z).2.2.1 x c e rfl) ho (I.freeC x c e)
  · obtain ⟨e, n, ne, nf, d⟩ := I.pin p hp
    have nch : p.1 ∉ ch := fun z => (hch p.1 z).2.2.2 p hp rfl
    exact ⟨keep p.1 p.2 ne nf nch e n, free p.1 p.2 nch e n, ne, nf, d⟩
theorem Inv.un {t' : Nat} (I : Inv X pins σ H s) (u : Un X.fs [] H H' s.heap h') (hok : HOk X.prog X.w H' h') : Inv X pins σ H' { s with heap := h', toks := t' } := by
  obtain ⟨m, ⟨o, es, ep, ho, r⟩, _⟩ := id I.loc
  obtain ⟨sl, hL⟩ := u.any ho I.free (by simp)
  exact I.step (g' := s.gens) (d' := s.drawn) (ch := []) (fun _ z => nomatch z) (fun b o _ hb _ e n => u.keep b o e n hb (by simp)) (fun b o _ hb _ e n => u.slot b o e n hb (by simp)) (fun b o _ e n => u.free b o e n (by simp)) (fun b o _ e => u.there b o e (by simp)) u.tups u.frzs u.tbls (fun m' hm => by
    obtain ⟨o', es', ep', ho', r'⟩ := hm
    rw [ho] at ho'; cases ho'
    exact ⟨_, es', ep', hL, r'⟩) hok I.bare
theorem Inv.call {g' : Array GenState} {t' : Nat} {d' : Drawn} {ch : List Addr} (I : Inv X pins σ H s) (u : Un (frs X.stack) ch H H' s.heap h') (hok : HOk X.prog X.w H' h') (hg : AllBare g')
    (hch : ∀ b ∈ ch, (b ∈ X.ex ∨ X.s₀.heap.objs.size ≤ b) ∧ b ≠ X.env.locals ∧ (∀ x c, X.env.cells.lookup x = some c → c ≠ b) ∧ ∀ p ∈ X.pn ++ pins, p.1 ≠ b) :
    Inv X pins σ H' { s with heap := h', gens := g', drawn := d', toks := t' } := by
  obtain ⟨m, ⟨o, es, ep, ho, r⟩, _⟩ := id I.loc
  obtain ⟨sl, hL⟩ := u.any ho I.free fun z => (hch _ z).2.1 rfl
  exact I.step (ch := ch) hch (fun b o hL hb hc e n => u.keep b o e n (fun z => (List.mem_cons.mp (I.stkSub b z)).elim hL hb) hc) (fun b o _ _ hc e n => u.any e n hc) (fun b o hc e n => u.free b o e n hc) (fun b o hc e => u.there b o e hc) u.tups u.frzs u.tbls (fun m' hm => by
    obtain ⟨o', es', ep', ho', r'⟩ := hm
    rw [ho] at ho'; cases ho'
    exact ⟨_, es', ep', hL, r'⟩) hok hg
theorem Inv.turned {t' : Nat} {it : Addr} (I : Inv X pins σ H s) (k : ∀ b o, b ≠ it → s.heap.get? b = some o → h'.get? b = some o) (hn : H it = none) (hL : it ≠ X.env.locals)
    (h1 : it ∈ X.ex ∨ X.s₀.heap.objs.size ≤ it) (h2 : ∀ x c, X.env.cells.lookup x = some c → c ≠ it) (h3 : ∀ p ∈ X.pn ++ pins, p.1 ≠ it) : Inv X pins σ H { s with heap := h', toks := t' } := by
  have nit : ∀ b u, H b = some u → b ≠ it := fun b u e z => by rw [z, hn] at e; cases e
  refine I.step (g' := s.gens) (d' := s.drawn) (ch := [it]) (fun b hb => ?_) (fun b o _ _ hc e _ => k b o (fun z => hc (by simp [z])) e) (fun b o _ _ hc e _ => ⟨o.slots, k b o (fun z => hc (by simp [z])) e⟩) (fun _ _ _ _ n => n)
    (fun b o hc e => ⟨o, k b o (fun z => hc (by simp [z])) e⟩) (fun _ _ e => e) (fun _ _ _ e => e) (fun b ps e => ⟨#[], by rw [e]; simp⟩) (fun m hm => ?_) (fun b u e => ?_) I.bare
  · have e : b = it := by simpa using hb
    subst e
    exact ⟨h1, hL, h2, h3⟩
  · obtain ⟨o, es, ep, ho, r⟩ := hm
    exact ⟨o, es, ep, k _ o (Ne.symm hL) ho, r⟩
  · refine (I.hok b u e).stay (fun c v hc q => k c v ?_ q) (fun _ q => q) fun _ _ q => q
    rcases hc with z | z
    · rw [z]; exact nit b u e
    · exact nit c _ z
theorem Inv.tok (I : Inv X pins σ H s) (t : Nat) : Inv X pins σ H { s with toks := t } := I.un (h' := s.heap) (t' := t) Un.refl I.hok
theorem Inv.kept {t' : Nat} (I : Inv X pins σ H s) (k : ∀ b u, s.heap.get? b = some u → h'.get? b = some u) : Inv X pins σ H { s with heap := h', toks := t' } := I.un (Un.kept k) (I.hok.kept k)
theorem Inv.laid {a : Addr} {o : HO} {t' : Nat} (I : Inv X pins σ H s) (k : ∀ b u, s.heap.get? b = some u → h'.get? b = some u) (hp : s.heap.objs.size ≤ a) (new : ObjOk X.prog X.w (upd H a o) h' a o) :
    Inv X pins σ (upd H a o) { s with heap := h', toks := t' } := I.un (Un.laid k hp (I.hok.fresh hp)) (I.hok.laid k hp new)
theorem Inv.write {x e : Addr} {o : HO} {t' : Nat} (I : Inv X pins σ H s) (mu : Mut (H x)) (he : e = x ∨ H e = some (.own x)) (k : ∀ b u, b ≠ e → s.heap.get? b = some u → h'.get? b = some u) (heo : ∃ u, h'.get? e = some u)
    (new : ObjOk X.prog X.w (upd H x o) h' x o) : Inv X pins σ (upd H x o) { s with heap := h', toks := t' } := I.un (Un.write mu he k heo) (I.hok.write mu he k heo new)
theorem Inv.pins_of {pins' : List (Addr × Obj)} (I : Inv X pins σ H s) (h : ∀ p ∈ pins', s.heap.get? p.1 = some p.2 ∧ H p.1 = none ∧ p.1 ≠ X.env.locals ∧ p.1 ∉ X.fs ∧ ∀ v, p.2.data ≠ .cell v) : Inv X pins' σ H s :=
  ⟨I.ok, I.os, I.bare, I.base, I.loc, I.cell, I.free, I.freeC, fun p hp => (List.mem_append.mp hp).elim (fun z => I.pin p (List.mem_append_left _ z)) (h p), I.hok, I.len⟩
theorem nodup_ix {N : List Str} (hN : N.Nodup) {i j : Nat} {x : Str} (a : N[i]? = some x) (b : N[j]? = some x) : i = j := by
  obtain ⟨h1, e1⟩ := List.getElem?_eq_some_iff.mp a
  obtain ⟨h2, e2⟩ := List.getElem?_eq_some_iff.mp b
  exact (List.getElem_inj hN).mp (e1.trans e2.symm)
theorem store_ok2 {M : Model} {A : Around} {E : Value → Shared → Prop} {i : Nat} {x : Str} {v : V} {u : Value} {Q : Unit → Shared → Prop} (I : Inv X pins σ H s) (hN : X.N.Nodup) (hi : X.N[i]? = some x) (hx : Loc X.env.scope x) (r : RelV v u)
    (h : ∀ s', Inv X pins (σ.set i (some v)) H s' → (∃ a, Heap.SameBut a s.heap s'.heap ∧ (a = X.env.locals ∨ X.env.cells.lookup x = some a)) → Q () s') (hf : X.fn x = true ∨ X.env.scope.names.lookup x = some .local := by first | exact .inl rfl | exact .inr rfl | assumption) : wpAny M A (storeName X.env x u) Q E s := by
  obtain ⟨m, hn, hl⟩ := id I.loc
  have hcls : (X.env.scope.kind == .class || (X.env.scope.kind == .module && X.env.locals != X.env.globals)) = false := by rw [I.ok.kind]; rfl
  have hiσ : i < σ.length := by rw [I.len]; exact (List.getElem?_eq_some_iff.mp hi).1
  have cne := I.cne
  have tracked : ∀ {a : Addr} {h' : Heap}, (∃ o, s.heap.get? a = some o ∧ H a = none) → Heap.SameBut a s.heap h' → HOk X.prog X.w H h' := fun {a h'} ha hs b ob e => by
    obtain ⟨_, _, hfree⟩ := ha
    refine (I.hok b ob e).stay (fun c w' hc q => (hs.2 c ?_).trans q) (fun _ q => q) fun _ _ q => q
    rintro rfl
    rcases hc with rfl | hc
    · rw [hfree] at e; cases e
    · rw [hfree] at hc; cases hc
  rcases hx with hk | hk
  · refine wpAny_storeName_local hk hn (fun h' hn' hs => ?_) hcls
    obtain ⟨oL, _, _, hoL, _⟩ := id hn
    refine h _ ⟨I.ok, I.os, I.bare, ⟨fun b o e n hb hx => ?_, fun b o e n hb hx => ?_, I.base.free, fun b o e hx => ?_, I.base.tups, I.base.frzs, I.base.tbls⟩, ⟨_, hn', fun j y v' e1 e2 e3 => ?_⟩, fun y c e => ?_, I.free, I.freeC, fun p hp => ?_, tracked ⟨oL, hoL, I.free⟩ hs, by simpa using I.len⟩ ⟨_, hs, .inl rfl⟩
    · exact (hs.2 b (Nat.ne_of_lt (Nat.lt_of_lt_of_le (Heap.lt_size e) I.ok.above))).trans (I.base.keep b o e n hb hx)
    · obtain ⟨sl, e1⟩ := I.base.slot b o e n hb hx
      exact ⟨sl, (hs.2 b (Nat.ne_of_lt (Nat.lt_of_lt_of_le (Heap.lt_size e) I.ok.above))).trans e1⟩
    · obtain ⟨o', e1⟩ := I.base.there b o e hx
      exact ⟨o', (hs.2 b (Nat.ne_of_lt (Nat.lt_of_lt_of_le (Heap.lt_size e) I.ok.above))).trans e1⟩
    · by_cases hj : j = i
      · subst hj
        rw [hi] at e1; cases e1
        rw [List.getElem?_set_self hiσ] at e2
        cases e2
        exact ⟨u, r, .inl ⟨hk, by simp⟩⟩
      · rw [List.getElem?_set_ne (Ne.symm hj)] at e2
        obtain ⟨u', r', q⟩ := hl j y v' e1 e2 e3
        refine ⟨u', r', ?_⟩
        rcases q with ⟨k, e⟩ | ⟨k, c, e, z⟩
        · refine .inl ⟨k, ?_⟩
          have : y ≠ x := fun e => hj (nodup_ix hN e1 (e ▸ hi))
          simp [this, e]
        · exact .inr ⟨k, c, e, z.sameBut hs (cne y c e)⟩
    · obtain ⟨w', z⟩ := I.cell y c e
      exact ⟨w', z.sameBut hs (cne y c e)⟩
    · obtain ⟨e, n, ne, nf, d⟩ := I.pin p hp
      exact ⟨(hs.2 p.1 ne).trans e, n, ne, nf, d⟩
  · have hfn : X.fn x = true := by
      rcases hf with z | z
      · exact z
      · rw [z] at hk; cases hk
    obtain ⟨c, hc⟩ := I.ok.has x (.inl hk)
    obtain ⟨w', z⟩ := I.cell x c hc
    refine wpAny_storeName_cell I.ok.kind hk hc z (fun h' hc' hs => ?_)
    obtain ⟨oc, hoc, hocd⟩ := id z
    refine h { s with heap := h' } ⟨I.ok, I.os, I.bare, ⟨fun b o e n hb hx => ?_, fun b o e n hb hx => ?_, I.base.free, fun b o e hx => ?_, I.base.tups, I.base.frzs, I.base.tbls⟩, ⟨m, hn.sameBut hs (Ne.symm (cne x c hc)), fun j y v' e1 e2 e3 => ?_⟩, fun y c' e => ?_, I.free, I.freeC, fun p hp => ?_, tracked ⟨oc, hoc, I.freeC x c hc⟩ hs, by simpa using I.len⟩ ⟨c, hs, .inr hc⟩
    · exact (hs.2 b (Nat.ne_of_lt (Nat.lt_of_lt_of_le (Heap.lt_size e) (I.ok.cab x c hfn hc)))).trans (I.base.keep b o e n hb hx)
    · obtain ⟨sl, e1⟩ := I.base.slot b o e n hb hx
      exact ⟨sl, (hs.2 b (Nat.ne_of_lt (Nat.lt_of_lt_of_le (Heap.lt_size e) (I.ok.cab x c hfn hc)))).trans e1⟩
    · obtain ⟨o', e1⟩ := I.base.there b o e hx
      exact ⟨o', (hs.2 b (Nat.ne_of_lt (Nat.lt_of_lt_of_le (Heap.lt_size e) (I.ok.cab x c hfn hc)))).trans e1⟩
    · by_cases hj : j = i
      · subst hj
        rw [hi] at e1; cases e1
        rw [List.getElem?_set_self hiσ] at e2
        cases e2
        exact ⟨u, r, .inr ⟨.inl hk, c, hc, hc'⟩⟩
      · rw [List.getElem?_set_ne (Ne.symm hj)] at e2
        obtain ⟨u', r', q⟩ := hl j y v' e1 e2 e3
        refine ⟨u', r', ?_⟩
        rcases q with q | ⟨k, c', e, z'⟩
        · exact .inl q
        · refine .inr ⟨k, c', e, z'.sameBut hs ?_⟩
          rintro rfl
          exact hj (nodup_ix hN e1 (I.ok.inj _ _ _ e hc ▸ hi))
    · by_cases hcc : c' = c
      · subst hcc; exact ⟨_, hc'⟩
      · obtain ⟨w2, z2⟩ := I.cell y c' e
        exact ⟨w2, z2.sameBut hs hcc⟩
    · obtain ⟨e, n, ne, nf, d⟩ := I.pin p hp
      refine ⟨(hs.2 p.1 ?_).trans e, n, ne, nf, d⟩
      intro q
      rw [q, hoc] at e
      have q' : oc = p.2 := Option.some.inj e
      exact d w' (by rw [← q']; exact hocd)
theorem store_ok {M : Model} {A : Around} {E : Value → Shared → Prop} {i : Nat} {x : Str} {v : V} {u : Value} {Q : Unit → Shared → Prop} (I : Inv X pins σ H s) (hN : X.N.Nodup) (hi : X.N[i]? = some x) (hx : Loc X.env.scope x) (r : RelV v u)
    (h : ∀ s', Inv X pins (σ.set i (some v)) H s' → Q () s') (hf : X.fn x = true ∨ X.env.scope.names.lookup x = some .local := by first | exact .inl rfl | exact .inr rfl | assumption) : wpAny M A (storeName X.env x u) Q E s :=
  store_ok2 I hN hi hx r (fun s' I' _ => h s' I') hf
theorem Inv.call' {s' : Shared} {ch : List Addr} (I : Inv X pins σ H s) (ho : s'.os = s.os) (u : Un (frs X.stack) ch H H' s.heap s'.heap) (hok : HOk X.prog X.w H' s'.heap) (hg : AllBare s'.gens)
    (hch : ∀ b ∈ ch, (b ∈ X.ex ∨ X.s₀.heap.objs.size ≤ b) ∧ b ≠ X.env.locals ∧ (∀ x c, X.env.cells.lookup x = some c → c ≠ b) ∧ ∀ p ∈ X.pn ++ pins, p.1 ≠ b) : Inv X pins σ H' s' := by
  obtain ⟨h', g', d', t', o'⟩ := s'
  have e : o' = s.os := ho
  subst e
  exact I.call (g' := g') (t' := t') (d' := d') u hok hg hch
end
abbrev XK := Value → Option Addr → Hp → Prop
abbrev St := List (Option V)
abbrev VK := V → Hp → Prop
abbrev TE := St → Hp → VK → Prop
abbrev TT := St → Hp → (Bool → Hp → Prop) → Prop
abbrev TA := St → Hp → (List V → Hp → Prop) → Prop
structure Ends where
  nx : St → Hp → Prop
  rt : VK
  bk : St → Hp → Prop := fun _ _ => False
  ct : St → Hp → Prop := fun _ _ => False
abbrev TS := Ends → St → Hp → Prop
def EP (X : Cx) (pins : List (Addr × Obj)) (σ : St) (Q : VK) (u : Value) (s' : Shared) : Prop := ∃ v H', Inv X pins σ H' s' ∧ RelV v u ∧ Q v H'
def TP (X : Cx) (pins : List (Addr × Obj)) (σ : St) (Q : Bool → Hp → Prop) (b : Bool) (s' : Shared) : Prop := ∃ H', Inv X pins σ H' s' ∧ Q b H'
def AP (X : Cx) (pins : List (Addr × Obj)) (σ : St) (Q : List V → Hp → Prop) (us : List Value) (s' : Shared) : Prop := ∃ vs H', Inv X pins σ H' s' ∧ Vals vs us ∧ Q vs H'
def SP (X : Cx) (pins : List (Addr × Obj)) (D : Ends) (f : Flow) (s' : Shared) : Prop :=
  match f with
  | .next => ∃ σ' H', Inv X pins σ' H' s' ∧ D.nx σ' H'
  | .brk => ∃ σ' H', Inv X pins σ' H' s' ∧ D.bk σ' H'
  | .cont => ∃ σ' H', Inv X pins σ' H' s' ∧ D.ct σ' H'
  | .ret u => ∃ v σ' H', Inv X pins σ' H' s' ∧ RelV v u ∧ D.rt v H'
def PE (X : Cx) (e : Expr) (t : TE) : Prop :=
  ∀ (pins : List (Addr × Obj)) (s : Shared) (σ : St) (H : Hp) (Q : VK), Inv X pins σ H s → t σ H Q → wpAny (model X.prog X.w) X.A (eval e X.env) (EP X pins σ Q) X.xe s
def PT (X : Cx) (e : Expr) (t : TT) : Prop :=
  ∀ (pins : List (Addr × Obj)) (s : Shared) (σ : St) (H : Hp) (Q : Bool → Hp → Prop), Inv X pins σ H s → t σ H Q → wpAny (model X.prog X.w) X.A (isTrue e X.env (eval e X.env)) (TP X pins σ Q) X.xe s
def PW (X : Cx) (e : Expr) (t : TT) : Prop :=
  ∀ (whole : Sem Value) (pins : List (Addr × Obj)) (s : Shared) (σ : St) (H : Hp) (Q : Bool → Hp → Prop), Inv X pins σ H s → t σ H Q → wpAny (model X.prog X.w) X.A (isTrue e X.env whole) (TP X pins σ Q) X.xe s
theorem PW.pt {X : Cx} {e : Expr} {t : TT} (h : PW X e t) : PT X e t := h _
def PA (X : Cx) (es : List Expr) (t : TA) : Prop :=
  ∀ (pos : Pos) (pins : List (Addr × Obj)) (s : Shared) (σ : St) (H : Hp) (Q : List V → Hp → Prop), Inv X pins σ H s → t σ H Q → wpAny (model X.prog X.w) X.A (spliced (backTo pos (starEach es X.env))) (AP X pins σ Q) X.xe s
def PS (X : Cx) (st : Stmt) (t : TS) : Prop :=
  ∀ (pins : List (Addr × Obj)) (s : Shared) (σ : St) (H : Hp) (D : Ends), Inv X pins σ H s → t D σ H → wpAny (model X.prog X.w) X.A (exec st X.env) (SP X pins D) X.xe s
def PSs (X : Cx) (st : List Stmt) (t : TS) : Prop :=
  ∀ (pins : List (Addr × Obj)) (s : Shared) (σ : St) (H : Hp) (D : Ends), Inv X pins σ H s → t D σ H → wpAny (model X.prog X.w) X.A (execs st X.env) (SP X pins D) X.xe s
theorem thn {α : Type} {t : Sem α} {Q Q' : α → Shared → Prop} {M : Model} {A : Around} {E : Value → Shared → Prop} {s : Shared} (h : wpAny M A t Q E s) (hQ : ∀ a s, Q a s → Q' a s) : wpAny M A t Q' E s := wpAny_mono h hQ fun _ _ x => x
end L2
namespace L2
open PySem PySem.Spec PyProof.Rows
section
variable {X : Cx}
theorem bin {a b : Expr} {ta tb : TE} (ha : PE X a ta) (hb : PE X b tb) {pins : List (Addr × Obj)} {s : Shared} {σ : St} {H : Hp} {R : V → V → Hp → Prop} (I : Inv X pins σ H s) (h : ta σ H fun x H1 => tb σ H1 fun y H2 => R x y H2)
    {α : Type} {Q : α → Shared → Prop} {f : Value → Value → Sem α}
    (hf : ∀ v u s2 x y H2, Inv X pins σ H2 s2 → RelV x v → RelV y u → R x y H2 → wpAny (model X.prog X.w) X.A (f v u) Q X.xe s2) :
    wpAny (model X.prog X.w) X.A (eval a X.env) (fun v s₁ => wpAny (model X.prog X.w) X.A (eval b X.env) (fun u s₂ => wpAny (model X.prog X.w) X.A (f v u) Q X.xe s₂) X.xe s₁) X.xe s := by
  refine thn (ha pins s σ H _ I h) fun v s1 ⟨x, H1, I1, r1, q1⟩ => ?_
  refine thn (hb pins s1 σ H1 _ I1 q1) fun u s2 ⟨y, H2, I2, r2, q2⟩ => ?_
  exact hf v u s2 x y H2 I2 r1 r2 q2
def tVar (i : Nat) : TE := fun σ H Q => ∃ v, σ[i]? = some (some v) ∧ Q v H
def tC (v : V) : TE := fun _ H Q => Q v H
theorem pe_var {i : Nat} {x : Str} {pos : Pos} (hN : X.N[i]? = some x) (hv : Vis X.env.scope x) (hd : (x == ("__debug__" : Str)) = false := by decide) (hcd : (x == ("__classdict__" : Str)) = false := by decide) : PE X (.Name x pos) (tVar i) := by
  intro pins s σ H Q I h
  obtain ⟨v, e, h⟩ := h
  obtain ⟨m, hn, hl⟩ := I.loc
  obtain ⟨u, r, l⟩ := hl i x v hN e hv
  have fin : EP X pins σ Q u s := ⟨v, H, I, r, h⟩
  rcases l with ⟨hk, hm⟩ | ⟨hk, c, hc, hcell⟩
  · exact wpAny_Name (wpAny_loadName_local I.ok.kind hk hn hm fin) hd
  · rcases hk with hk | hk
    · exact wpAny_Name (wpAny_loadName_cell I.ok.kind hk hc hcell fin) hd
    · exact wpAny_Name (wpAny_loadName_free I.ok.kind hk hc hcell fin hcd) hd
theorem pe_int {i j pos} : PE X (.Constant (.int i) j pos) (tC (.int i)) := fun _ _ _ H _ I h => wpAny_Constant_int ⟨.int i, H, I.tok _, ⟨_, rfl⟩, h⟩
theorem pe_bl {b j pos} : PE X (.Constant (.bool b) j pos) (tC (.bl b)) := fun _ _ _ H _ I h => Constant_bool ⟨.bl b, H, I, rfl, h⟩
theorem pe_non {j pos} : PE X (.Constant .none j pos) (tC .non) := fun _ _ _ H _ I h => Constant_none ⟨.non, H, I, rfl, h⟩
theorem pe_str {x j pos} : PE X (.Constant (.str x) j pos) (tC (.str x)) := fun _ _ _ H _ I h => Calls.Constant_str ⟨.str x, H, I.tok _, ⟨_, rfl⟩, h⟩
def Gl (X : Cx) (x : Str) : Prop := X.env.kindOf x = some .globalImplicit
theorem ld_glob {E : Value → Shared → Prop} {pins : List (Addr × Obj)} {s : Shared} {σ : St} {H : Hp} {x : Str} {u : Value} {pos : Pos} {Q : Value → Shared → Prop} (I : Inv X pins σ H s) (hg : Gl X x) (hm : X.mg x = some u) (h : Q u s)
    (hd : (x == ("__debug__" : Str)) = false := by decide) : wpAny (model X.prog X.w) X.A (eval (.Name x pos) X.env) Q E s :=
  Calls.Name_function_global I.ok.kind hg (Calls.loadGlobal_global (by rw [I.ok.glob]; exact I.mod.glob.keeps I.bk) hm h) hd
theorem ld_blt {E : Value → Shared → Prop} {pins : List (Addr × Obj)} {s : Shared} {σ : St} {H : Hp} {x : Str} {u : Value} {pos : Pos} {Q : Value → Shared → Prop} (I : Inv X pins σ H s) (hg : Gl X x) (hm : X.mg x = none) (hv : bootBuiltins x = some u) (h : Q u s)
    (hn : x ≠ "__name__" := by decide) (hd : (x == ("__debug__" : Str)) = false := by decide) : wpAny (model X.prog X.w) X.A (eval (.Name x pos) X.env) Q E s := by
  obtain ⟨mb, h1, h2⟩ := I.mod.blt
  exact Calls.Name_function_global I.ok.kind hg (Calls.loadGlobal_builtin (by rw [I.ok.glob]; exact I.mod.glob.keeps I.bk) hm (by rw [I.ok.blt]; exact h1.keeps I.bk) ((h2 x hn).trans hv) h) hd
theorem pe_glob {x : Str} {v : V} {u : Value} {pos : Pos} (hg : Gl X x) (hm : X.mg x = some u) (r : RelV v u) (hd : (x == ("__debug__" : Str)) = false := by decide) : PE X (.Name x pos) (tC v) :=
  fun _ _ _ H _ I h => ld_glob I hg hm ⟨v, H, I, r, h⟩ hd
theorem pe_bltn {x : Str} {v : V} {u : Value} {pos : Pos} (hg : Gl X x) (hm : X.mg x = none) (hv : bootBuiltins x = some u) (r : RelV v u) (hn : x ≠ "__name__" := by decide) (hd : (x == ("__debug__" : Str)) = false := by decide) : PE X (.Name x pos) (tC v) :=
  fun _ _ _ H _ I h => ld_blt I hg hm hv ⟨v, H, I, r, h⟩ hn hd
variable {a b : Expr} {ta tb : TE} {pos : Pos}
def PC (X : Cx) (op : CmpOp) (a b : Expr) (t : TE) : Prop :=
  ∀ (pins : List (Addr × Obj)) (s : Shared) (σ : St) (H : Hp) (Q : VK), Inv X pins σ H s → t σ H Q →
    wpAny (model X.prog X.w) X.A (eval a X.env) (fun v s₁ => wpAny (model X.prog X.w) X.A (eval b X.env) (fun u s₂ => wpAny (model X.prog X.w) X.A (compareOp op v u) (EP X pins σ Q) X.xe s₂) X.xe s₁) X.xe s
theorem nobehind (b : Expr) {op : CmpOp} (h : op ≠ .In) (h2 : op ≠ .NotIn) : behindInMarks op b = false := by
  have e1 : (op == CmpOp.In) = false := by cases op <;> first | rfl | exact absurd rfl h
  have e2 : (op == CmpOp.NotIn) = false := by cases op <;> first | rfl | exact absurd rfl h2
  cases b <;> simp [behindInMarks, e1, e2]
def tB (t : TE) : TT := fun σ H Q => t σ H fun x H1 => ∃ c, x = .bl c ∧ Q c H1
theorem pt_cmp {op : CmpOp} {t : TE} (h : PC X op a b t) (h1 : behindInMarks op b = false := by first | exact nobehind _ (by decide) (by decide) | rfl) : PT X (.Compare a [op] [b] pos) (tB t) := by
  intro pins s σ H Q I hw
  refine wpAny_isTrue_Compare1 (thn (h pins s σ H _ I hw) fun v s1 h1 => thn h1 fun u s2 h2 => thn h2 fun c s3 ⟨x, H1, I1, r1, q1⟩ => ?_) h1
  obtain ⟨d, rfl, q⟩ := q1
  cases r1
  exact wpAny_truthy_bool ⟨H1, I1, q⟩
theorem pt_val {e : Expr} {t : TE} (h : PE X e t) (he : ∀ whole, isTrue e X.env whole = (do let v ← whole; standAt e.pos; holding [v] (truthy v)) := by intro _; rfl) : PT X e (tB t) := by
  intro pins s σ H Q I hw
  refine isTrue_plain (thn (h pins s σ H _ I hw) fun v s1 ⟨x, H1, I1, r1, q1⟩ => ?_) (he _)
  obtain ⟨d, rfl, q⟩ := q1
  cases r1
  exact wpAny_truthy_bool ⟨H1, I1, q⟩
variable {tA tB' : TT} {rest : List Expr}
def tAnd (t u : TT) : TT := fun σ H Q => t σ H fun c H1 => if c = true then u σ H1 Q else Q false H1
def tOr (t u : TT) : TT := fun σ H Q => t σ H fun c H1 => if c = true then Q true H1 else u σ H1 Q
def tNot (t : TT) : TT := fun σ H Q => t σ H fun c H1 => Q (!c) H1
theorem pw_and1 (ha : PT X a tA) : PW X (.BoolOp .And [a] pos) tA := by
  intro wh pins s σ H Q I h
  refine isTrue_and (thn (ha pins s σ H Q I h) fun c s1 e => ?_)
  cases c with
  | true => exact isTrue_and_nil e
  | false => exact e
theorem pw_or1 (ha : PT X a tA) : PW X (.BoolOp .Or [a] pos) tA := by
  intro wh pins s σ H Q I h
  refine isTrue_or (thn (ha pins s σ H Q I h) fun c s1 e => ?_)
  cases c with
  | false => exact isTrue_or_nil e
  | true => exact e
theorem pw_and (ha : PT X a tA) (hb : PW X (.BoolOp .And (b :: rest) pos) tB') : PW X (.BoolOp .And (a :: b :: rest) pos) (tAnd tA tB') := by
  intro wh pins s σ H Q I h
  refine isTrue_and (thn (ha pins s σ H _ I h) fun c s1 ⟨H1, I1, q1⟩ => ?_)
  cases c with
  | true => exact hb wh pins s1 σ H1 Q I1 q1
  | false => exact ⟨H1, I1, q1⟩
theorem pw_or (ha : PT X a tA) (hb : PW X (.BoolOp .Or (b :: rest) pos) tB') : PW X (.BoolOp .Or (a :: b :: rest) pos) (tOr tA tB') := by
  intro wh pins s σ H Q I h
  refine isTrue_or (thn (ha pins s σ H _ I h) fun c s1 ⟨H1, I1, q1⟩ => ?_)
  cases c with
  | true => exact ⟨H1, I1, q1⟩
  | false => exact hb wh pins s1 σ H1 Q I1 q1
theorem pt_not (ha : PT X a tA) : PT X (.UnaryOp .Not a pos) (tNot tA) := by
  intro pins s σ H Q I h
  exact isTrue_not (ha pins s σ H (fun c H1 => Q (!c) H1) I h)
def tAndV (ta tb : TE) : TE := fun σ H Q => ta σ H fun x H1 => ∃ c, x = .bl c ∧ if c = true then tb σ H1 Q else Q (.bl false) H1
def tOrV (ta tb : TE) : TE := fun σ H Q => ta σ H fun x H1 => ∃ c, x = .bl c ∧ if c = true then Q (.bl true) H1 else tb σ H1 Q
theorem pe_one {op} {t : TE} (h : PE X a t) : PE X (.BoolOp op [a] pos) t := fun pins s σ H Q I hw => BoolOp_one (h pins s σ H Q I hw)
theorem pe_and (ha : PE X a ta) (hb : PE X (.BoolOp .And (b :: rest) pos) tb) : PE X (.BoolOp .And (a :: b :: rest) pos) (tAndV ta tb) := by
  intro pins s σ H Q I h
  refine BoolOp_and (thn (ha pins s σ H _ I h) fun v s1 ⟨x, H1, I1, r1, q1⟩ => ?_)
  obtain ⟨c, rfl, q1⟩ := q1
  cases r1
  refine wpAny_truthy_bool ?_
  cases c with
  | true => exact hb pins s1 σ H1 Q I1 q1
  | false => exact ⟨.bl false, H1, I1, rfl, q1⟩
theorem pe_or (ha : PE X a ta) (hb : PE X (.BoolOp .Or (b :: rest) pos) tb) : PE X (.BoolOp .Or (a :: b :: rest) pos) (tOrV ta tb) := by
  intro pins s σ H Q I h
  refine BoolOp_or (thn (ha pins s σ H _ I h) fun v s1 ⟨x, H1, I1, r1, q1⟩ => ?_)
  obtain ⟨c, rfl, q1⟩ := q1
  cases r1
  refine wpAny_truthy_bool ?_
  cases c with
  | false => exact hb pins s1 σ H1 Q I1 q1
  | true => exact ⟨.bl true, H1, I1, rfl, q1⟩
def tIf (t : TT) (ta tb : TE) : TE := fun σ H Q => t σ H fun c H1 => if c = true then ta σ H1 Q else tb σ H1 Q
theorem pe_ifExp {c : Expr} (hc : PT X c tA) (ha : PE X a ta) (hb : PE X b tb) : PE X (.IfExp c a b pos) (tIf tA ta tb) := by
  intro pins s σ H Q I h
  refine wpAny_IfExp (thn (hc pins s σ H _ I h) fun d s1 ⟨H1, I1, q1⟩ => ?_)
  cases d with
  | true => exact ha pins s1 σ H1 Q I1 q1
  | false => exact hb pins s1 σ H1 Q I1 q1
end
end L2
namespace L2
open PySem PySem.Spec PyProof.Rows
def SqL (K : PySem.W.Frag) (H : Hp) (a : Addr) (xs : List V) : Prop :=
  Rd H a (.lst xs) ∨
    ∃ (o : Obj) (its : Array Value) (n : Nat), K.lookup a = some o ∧ o.cls = .type "list" ∧ o.dict = none ∧ o.data = .seq its n ∧ its.size ≤ sizeLine ∧ Vals xs its.toList
def SqT (K : PySem.W.Frag) (H : Hp) (a : Addr) (xs : List V) : Prop :=
  Rd H a (.tup xs) ∨
    ∃ (o : Obj) (its : Array Value) (n : Nat), K.lookup a = some o ∧ o.cls = .type "tuple" ∧ o.data = .seq its n ∧ its.size ≤ sizeLine ∧ Vals xs its.toList
def absV : Value → Option V
  | .none => some .non
  | .bool b => some (.bl b)
  | .int i _ => some (.int i)
  | .str x _ => some (.str x)
  | .bytes b _ => some (.byt b)
  | .float b _ => some (.flt b)
  | .ref a => some (.ref a)
  | .type n => some (.ty n)
  | _ => none
theorem RelV.abs {x : V} {u : Value} (r : RelV x u) : absV u = some x := by
  cases x with
  | non => cases r; rfl
  | bl _ => cases r; rfl
  | int _ => obtain ⟨t, rfl⟩ := r; rfl
  | str _ => obtain ⟨t, rfl⟩ := r; rfl
  | byt _ => obtain ⟨t, rfl⟩ := r; rfl
  | flt _ => obtain ⟨t, rfl⟩ := r; rfl
  | ref _ => cases r; rfl
  | ty _ => cases r; rfl
theorem RelV.inj {x y : V} {u : Value} (r : RelV x u) (q : RelV y u) : x = y := Option.some.inj (r.abs.symm.trans q.abs)
theorem Vals.inj : ∀ {xs ys : List V} {us : List Value}, Vals xs us → Vals ys us → xs = ys
  | _, _, _, .nil, .nil => rfl
  | _, _, _, .cons r t, .cons r' t' => by rw [r.inj r', Vals.inj t t']
section
variable {X : Cx} {pins : List (Addr × Obj)} {σ : St} {H : Hp} {s : Shared} {a : Addr} {xs ys : List V}
theorem SqL.of {K : PySem.W.Frag} (h : H a = some (.lst xs)) : SqL K H a xs := .inl (.inl h)
theorem SqT.of {K : PySem.W.Frag} (h : H a = some (.tup xs)) : SqT K H a xs := .inl (.inl h)
theorem Inv.list (I : Inv X pins σ H s) (h : SqL X.K H a xs) : ∃ its : List Value, Vals xs its ∧ PlainL s.heap a its.toArray ∧ xs.length ≤ sizeLine := by
  rcases h with h | ⟨o, its, n, hk, hc, hd, hs, hz, r⟩
  · obtain ⟨z, its, n, r, e⟩ := h.ok I.hok
    exact ⟨its, r, ⟨_, n, e, rfl, rfl, rfl⟩, z⟩
  · refine ⟨its.toList, r, ⟨o, n, I.kIn a o hk, hc, hd, by simpa using hs⟩, ?_⟩
    have e := r.length
    simp only [Array.length_toList] at e
    omega
theorem Inv.tuple (I : Inv X pins σ H s) (h : SqT X.K H a xs) : ∃ its : List Value, Vals xs its ∧ IsTup s.heap a its.toArray ∧ xs.length ≤ sizeLine := by
  rcases h with h | ⟨o, its, n, hk, hc, hs, hz, r⟩
  · obtain ⟨z, its, r, p⟩ := h.ok I.hok
    exact ⟨its, r, p, z⟩
  · refine ⟨its.toList, r, ⟨o, I.kIn a o hk, hc, n, by simpa using hs⟩, ?_⟩
    have e := r.length
    simp only [Array.length_toList] at e
    omega
theorem Inv.list_inj (I : Inv X pins σ H s) (h : SqL X.K H a xs) (h' : SqL X.K H a ys) : xs = ys := by
  obtain ⟨its, r, ⟨o, n, e, _, _, d⟩, _⟩ := I.list h
  obtain ⟨its', r', ⟨o', n', e', _, _, d'⟩, _⟩ := I.list h'
  rw [e] at e'; cases e'
  rw [d] at d'
  injection d' with d1 _
  have : its = its' := by simpa using congrArg Array.toList d1
  subst this
  exact r.inj r'
end
abbrev Cx.wish (X : Cx) (E : Value → Shared → Prop) : Cx := { X with xe := E }
abbrev Cx.nox (X : Cx) : Cx := X.wish fun _ _ => False
theorem Cx.Ok.wish {X : Cx} (ok : X.Ok) (E : Value → Shared → Prop) : (X.wish E).Ok :=
  ⟨ok.mod, ok.kind, ok.glob, ok.blt, ok.above, ok.inj, ok.has, ok.cab, ok.hd, ok.frames, ok.stk, ok.exf, ok.bs, ok.bsz, ok.noex, ok.exfs, ok.funs, ok.frf⟩
theorem Cx.Ok.unwish {X : Cx} {E : Value → Shared → Prop} (ok : (X.wish E).Ok) : X.Ok :=
  ⟨ok.mod, ok.kind, ok.glob, ok.blt, ok.above, ok.inj, ok.has, ok.cab, ok.hd, ok.frames, ok.stk, ok.exf, ok.bs, ok.bsz, ok.noex, ok.exfs, ok.funs, ok.frf⟩
section
variable {X : Cx} {pins : List (Addr × Obj)} {σ : St} {H : Hp} {s : Shared} {E : Value → Shared → Prop}
theorem Inv.wish (I : Inv X pins σ H s) (E : Value → Shared → Prop) : Inv (X.wish E) pins σ H s := ⟨I.ok.wish E, I.os, I.bare, I.base, I.loc, I.cell, I.free, I.freeC, I.pin, I.hok, I.len⟩
theorem Inv.unwish (I : Inv (X.wish E) pins σ H s) : Inv X pins σ H s := ⟨I.ok.unwish, I.os, I.bare, I.base, I.loc, I.cell, I.free, I.freeC, I.pin, I.hok, I.len⟩
theorem SP.unwish {D : Ends} {f : Flow} {s' : Shared} (h : SP (X.wish E) pins D f s') : SP X pins D f s' := by
  cases f with
  | next => obtain ⟨σ', H', I, q⟩ := h; exact ⟨σ', H', I.unwish, q⟩
  | brk => obtain ⟨σ', H', I, q⟩ := h; exact ⟨σ', H', I.unwish, q⟩
  | cont => obtain ⟨σ', H', I, q⟩ := h; exact ⟨σ', H', I.unwish, q⟩
  | ret u => obtain ⟨v, σ', H', I, r, q⟩ := h; exact ⟨v, σ', H', I.unwish, r, q⟩
theorem PT.nox {e : Expr} {t : TT} (h : PT X.nox e t) : PT X e t := fun pins s σ H Q I hw =>
  wpAny_mono (h pins s σ H Q (I.wish _) hw) (fun _ _ ⟨H', I', q⟩ => ⟨H', I'.unwish, q⟩) fun _ _ z => False.elim z
theorem PSs.nox {st : List Stmt} {t : TS} (h : PSs X.nox st t) : PSs X st t := fun pins s σ H D I hw =>
  wpAny_mono (h pins s σ H D (I.wish _) hw) (fun _ _ q => q.unwish) fun _ _ z => False.elim z
end
section
variable {X : Cx} {st : Stmt} {rest : List Stmt} {t u : TS} {e : Expr} {te : TE} {pos : Pos}
def tNext : TS := fun D σ H => D.nx σ H
def tSeq (t u : TS) : TS := fun D σ H => t { D with nx := u D } σ H
theorem pss_nil : PSs X [] tNext := fun _ _ σ H _ I h => wpAny_execs_nil ⟨σ, H, I, h⟩
theorem pss_cons (h1 : PS X st t) (h2 : PSs X rest u) : PSs X (st :: rest) (tSeq t u) := by
  intro pins s σ H D I h
  refine wpAny_execs_cons (thn (h1 pins s σ H { D with nx := u D } I h) fun f s1 q => ?_)
  cases f with
  | next =>
    obtain ⟨σ', H', I', q⟩ := q
    exact h2 pins s1 σ' H' D I' q
  | ret v => exact q
  | brk => exact q
  | cont => exact q
theorem pss_one (h1 : PS X st t) : PSs X [st] t := by
  intro pins s σ H D I h
  refine wpAny_execs_cons (thn (h1 pins s σ H D I h) fun f s1 q => ?_)
  cases f with
  | next => exact wpAny_execs_nil q
  | ret v => exact q
  | brk => exact q
  | cont => exact q
theorem Inv.quiet {pins : List (Addr × Obj)} {σ : St} {H : Hp} {s : Shared} (I : Inv X pins σ H s) : interactive X.env = false := by simp [interactive, I.ok.kind]
def tDrop (te : TE) : TS := fun D σ H => te σ H fun _ H1 => D.nx σ H1
theorem ps_expr (he : PE X e te) (hs : swapsWith e none pos.line X.env = pure false := by rfl) : PS X (.Expr e pos) (tDrop te) := by
  intro pins s σ H D I h
  exact wpAny_Expr_any (thn (he pins s σ H _ I h) fun v s1 ⟨x, H1, I1, r1, q1⟩ => ⟨σ, H1, I1, q1⟩) I.quiet hs
def tRet (te : TE) : TS := fun D σ H => te σ H D.rt
theorem ps_ret (he : PE X e te) : PS X (.Return (some e) pos) (tRet te) := by
  intro pins s σ H D I h
  exact wpAny_Return_some (thn (he pins s σ H _ I h) fun v s1 ⟨x, H1, I1, r1, q1⟩ => ⟨x, σ, H1, I1, r1, q1⟩)
def tIfS (c : TT) (t u : TS) : TS := fun D σ H => c σ H fun b H1 => if b = true then t D σ H1 else u D σ H1
theorem ps_if {c : Expr} {a b : List Stmt} {tc : TT} (hc : PT X c tc) (ha : PSs X a t) (hb : PSs X b u) : PS X (.If c a b pos) (tIfS tc t u) := by
  intro pins s σ H D I h
  refine wpAny_If (thn (hc pins s σ H _ I h) fun d s1 ⟨H1, I1, q1⟩ => ?_)
  cases d with
  | true => exact ha pins s1 σ H1 D I1 q1
  | false => exact hb pins s1 σ H1 D I1 q1
def tNever : TS := fun _ _ _ => False
theorem pss_never {sts : List Stmt} : PSs X sts tNever := fun _ _ _ _ _ _ h => h.elim
end
abbrev TG := V → St → Hp → (St → Hp → Prop) → Prop
abbrev TGs := List V → St → Hp → (St → Hp → Prop) → Prop
def PG (X : Cx) (target : Expr) (t : TG) : Prop :=
  ∀ (pins : List (Addr × Obj)) (s : Shared) (σ : St) (H : Hp) (v : V) (u : Value) (Q : St → Hp → Prop), Inv X pins σ H s → RelV v u → t v σ H Q →
    wpAny (model X.prog X.w) X.A (assign target X.env u) (fun _ s' => ∃ σ' H', Inv X pins σ' H' s' ∧ Q σ' H') X.xe s
def PGs (X : Cx) (ts : List Expr) (t : TGs) : Prop :=
  ∀ (pins : List (Addr × Obj)) (s : Shared) (σ : St) (H : Hp) (vs : List V) (us : List Value) (Q : St → Hp → Prop), Inv X pins σ H s → Vals vs us → t vs σ H Q →
    wpAny (model X.prog X.w) X.A (assignInOrder ((assignEach ts X.env).map (·.2)) us) (fun _ s' => ∃ σ' H', Inv X pins σ' H' s' ∧ Q σ' H') X.xe s
section
variable {X : Cx} {pos : Pos}
def gName (i : Nat) : TG := fun v σ H Q => Q (σ.set i (some v)) H
theorem pg_name {i : Nat} {x : Str} (hN : X.N.Nodup) (hi : X.N[i]? = some x) (hx : Loc X.env.scope x) (hf : X.fn x = true ∨ X.env.scope.names.lookup x = some .local := by first | exact .inl rfl | exact .inr rfl | assumption) : PG X (.Name x pos) (gName i) := by
  intro pins s σ H v u Q I r h
  exact wpAny_assign_Name (store_ok I hN hi hx r (fun s' I' => ⟨_, H, I', h⟩) hf)
def gNil : TGs := fun vs σ H Q => vs = [] ∧ Q σ H
def gCons (t : TG) (u : TGs) : TGs := fun vs σ H Q => ∃ v r, vs = v :: r ∧ t v σ H fun σ' H' => u r σ' H' Q
theorem pgs_nil : PGs X [] gNil := by
  intro pins s σ H vs us Q I r h
  obtain ⟨e, h⟩ := h
  subst e
  cases r
  exact assignInOrder_nil ⟨σ, H, I, h⟩
theorem pgs_cons {e : Expr} {es : List Expr} {t : TG} {u : TGs} (h1 : PG X e t) (h2 : PGs X es u)
    (hs : (assignEach (e :: es) X.env).map (·.2) = assign e X.env :: (assignEach es X.env).map (·.2) := by rfl) : PGs X (e :: es) (gCons t u) := by
  intro pins s σ H vs us Q I r h
  obtain ⟨v, vr, e1, h⟩ := h
  subst e1
  cases r with
  | cons r rr =>
    rw [hs]
    refine assignInOrder_cons (thn (h1 pins s σ H _ _ _ I r h) fun _ s1 ⟨σ1, H1, I1, q1⟩ => ?_)
    exact h2 pins s1 σ1 H1 _ _ Q I1 rr q1
def tAsg (te : TE) (g : TG) : TS := fun D σ H => te σ H fun x H1 => g x σ H1 D.nx
theorem ps_asg {tg e : Expr} {te : TE} {g : TG} (he : PE X e te) (hg : PG X tg g) (hs : swapsWithSole [tg] e pos.line X.env = pure false := by rfl) (hw : swappedStores [tg] e X.env = pure none := by rfl)
    (h1 : (assignEach [tg] X.env).map (·.2) = [assign tg X.env] := by rfl) : PS X (.Assign [tg] e pos) (tAsg te g) := by
  intro pins s σ H D I h
  refine wpAny_Assign_stores (thn (he pins s σ H _ I h) fun v s1 ⟨x, H1, I1, r1, q1⟩ => ?_) hs hw
  rw [h1]
  exact thn (hg pins s1 σ H1 x v _ I1 r1 q1) fun _ s2 q => q
theorem ps_set {i : Nat} {x : Str} {e : Expr} {te : TE} {pos' : Pos} (hN : X.N.Nodup) (hi : X.N[i]? = some x) (hx : Loc X.env.scope x) (he : PE X e te) (hs : swapsWith e (some (.Name x pos')) pos.line X.env = pure false := by rfl) (hf : X.fn x = true ∨ X.env.scope.names.lookup x = some .local := by first | exact .inl rfl | exact .inr rfl | assumption) :
    PS X (.Assign [.Name x pos'] e pos) (tAsg te (gName i)) := by
  intro pins s σ H D I h
  refine wpAny_Assign_Name (thn (he pins s σ H _ I h) fun v s1 ⟨y, H1, I1, r1, q1⟩ => ?_) hs
  exact store_ok I1 hN hi hx r1 (fun s2 I2 => ⟨_, H1, I2, q1⟩) hf
end
structure It where
  go : Nat → Hp → Prop
  yld : Nat → Hp → V → Hp → Prop
  stop : Nat → Hp → Prop
def FpOk (X : Cx) (pins : List (Addr × Obj)) (H : Hp) (b : Addr) : Prop :=
  H b = none ∧ b ≠ X.env.locals ∧ b ∉ X.fs ∧ (b ∈ X.ex ∨ X.s₀.heap.objs.size ≤ b) ∧ (∀ x c, X.env.cells.lookup x = some c → c ≠ b) ∧ ∀ p ∈ X.pn ++ pins, p.1 ≠ b
theorem Inv.fpOk {X : Cx} {pins : List (Addr × Obj)} {σ : St} {H H' : Hp} {s : Shared} {b : Addr} (I : Inv X pins σ H s) (hb : s.heap.objs.size ≤ b) (hn : H' b = none) : FpOk X pins H' b := by
  refine ⟨hn, Nat.ne_of_gt (Nat.lt_of_lt_of_le I.lt hb), I.nofs hb, .inr (Nat.le_trans I.sz hb), fun x c e z => ?_, fun p hp z => ?_⟩
  · obtain ⟨v, q⟩ := I.cell x c e
    exact absurd (Nat.lt_of_lt_of_le q.lt (by rw [z]; exact hb)) (Nat.lt_irrefl _)
  · exact absurd (Nat.lt_of_lt_of_le (Heap.lt_size (I.pin p hp).1) (by rw [z]; exact hb)) (Nat.lt_irrefl _)
structure Turn (P : Program) (w : World) (K : PySem.W.Frag) (tg : Expr) (J : It) (fp : List Addr) (it : Addr) (tn : Nat → Heap → Prop) : Prop where
  mem : it ∈ fp
  obj : ∀ i h, tn i h → ∀ b ∈ fp, ∃ o, h.get? b = some o ∧ ∀ v, o.data ≠ .cell v
  keep : ∀ i h h', tn i h → (∀ b ∈ fp, ∀ o, h.get? b = some o → h'.get? b = some o) → tn i h'
  item : ∀ (X : Cx), X.prog = P → X.w = w → X.K = K → X.calm = true → ∀ (i : Nat) (pins : List (Addr × Obj)) (s : Shared) (σ : St) (H : Hp) (E : Value → Shared → Prop), Inv X pins σ H s → (∀ b ∈ fp, FpOk X pins H b) → tn i s.heap → J.go i H →
    wpAny (model P w) X.A (pyNext (.ref it)) (fun r s1 => ∃ u, r = some u ∧
      wpAny (model P w) X.A (letOwnedTupleGo tg (.ref it) u) (fun _ s2 => ∃ x H', Inv X pins σ H' s2 ∧ RelV x u ∧ J.yld i H x H' ∧ tn (i + 1) s2.heap ∧ ∀ b ∈ fp, H' b = none) E s1) E s
  done : ∀ (X : Cx), X.prog = P → X.w = w → X.K = K → X.calm = true → ∀ (i : Nat) (pins : List (Addr × Obj)) (s : Shared) (σ : St) (H : Hp) (E : Value → Shared → Prop), Inv X pins σ H s → (∀ b ∈ fp, FpOk X pins H b) → tn i s.heap → J.stop i H →
    wpAny (model P w) X.A (pyNext (.ref it)) (fun r s1 => r = none ∧ Inv X pins σ H s1) E s
  self : ∀ (A : Around) (i : Nat) (s : Shared) (Q : Value → Shared → Prop) (E : Value → Shared → Prop), tn i s.heap → Q (.ref it) s → wpAny (model P w) A (pyIter (.ref it)) Q E s
abbrev TI := St → Hp → (It → Hp → Prop) → Prop
def PIE (X : Cx) (pins : List (Addr × Obj)) (σ : St) (tg : Expr) (R : It → Hp → Prop) (itv : Value) (s2 : Shared) : Prop :=
  ∃ (it : Addr) (fp : List Addr) (tn : Nat → Heap → Prop) (J : It) (H' : Hp), itv = .ref it ∧ Inv X pins σ H' s2 ∧ Turn X.prog X.w X.K tg J fp it tn ∧ tn 0 s2.heap ∧ (∀ b ∈ fp, FpOk X pins H' b) ∧ R J H'
def PI (X : Cx) (tg iter : Expr) (wi : TI) : Prop :=
  ∀ (pins : List (Addr × Obj)) (s : Shared) (σ : St) (H : Hp) (R : It → Hp → Prop), Inv X pins σ H s → wi σ H R →
    wpAny (model X.prog X.w) X.A (eval iter X.env) (fun v s1 => wpAny (model X.prog X.w) X.A (pyIter v) (PIE X pins σ tg R) X.xe s1) X.xe s
theorem go_of {M : Model} {A : Around} {E : Value → Shared → Prop} {s : Shared} {tg : Expr} {it : Addr} {u : Value} {o : Obj} {n : String} {vs : Array Value} {Q : Unit → Shared → Prop} (ho : s.heap.get? it = some o) (hc : o.cls = .type n) (hd : o.data = .fields vs)
    (hn : ["enumerate", "zip", "dict_itemiterator", "dict_reverseitemiterator", "odict_iterator", "itertools.zip_longest", "itertools.pairwise"].contains n = false) (hQ : Q () s) : wpAny M A (letOwnedTupleGo tg (.ref it) u) Q E s := by
  unfold letOwnedTupleGo
  cases tg <;> first
    | exact wpAny_pure hQ
    | (cases u <;> first
        | exact wpAny_pure hQ
        | (refine wpAny_bind (wpAny_load ho ?_)
           rw [hc, hd]
           show wpAny M A (if (["enumerate", "zip", "dict_itemiterator", "dict_reverseitemiterator", "odict_iterator", "itertools.zip_longest", "itertools.pairwise"].contains n && vs[0]? == some (rawInt _)) = true then _ else _) Q E s
           rw [if_neg (by intro h; rw [hn, Bool.false_and] at h; cases h)]
           exact wpAny_pure hQ))
def Itl (K : PySem.W.Frag) (a : Addr) : It :=
  ⟨fun i H => ∃ xs x, SqL K H a xs ∧ xs[i]? = some x, fun i H x H' => H' = H ∧ ∀ xs, SqL K H a xs → xs[i]? = some x, fun i H => ∃ xs, SqL K H a xs ∧ xs.length ≤ i⟩
def Itr (lo : Int) (n : Nat) : It := ⟨fun i _ => i < n, fun i H x H' => H' = H ∧ x = .int (lo + i), fun i _ => n ≤ i⟩
theorem turn_list {P : Program} {w : World} {K : PySem.W.Frag} {tg : Expr} (a it : Addr) : Turn P w K tg (Itl K a) [it] it (fun i h => h.IsListIter it a i) where
  mem := by simp
  obj := fun i h st b hb => by
    have e : b = it := by simpa using hb
    subst e
    obtain ⟨o, e, c, d⟩ := st
    exact ⟨o, e, fun v z => by rw [d] at z; cases z⟩
  keep := fun i h h' st k => st.at fun o e => k it (by simp) o e
  item := by
    intro X hP hw hK hc i pins s σ H E I hf st hg
    subst hP hw hK
    obtain ⟨xs, x, hq, hx⟩ := hg
    obtain ⟨its, rv, p, hz⟩ := I.list hq
    obtain ⟨u, hu, ru⟩ := rv.get hx
    obtain ⟨f0, f1, f2, f3, f4, f5⟩ := hf it (by simp)
    refine wpAny_pyNext_list_item st p.isList (x := u) (by simpa using hu) fun h' st' sb => ?_
    have I1 : Inv X pins σ H { s with heap := h' } := I.turned (t' := s.toks) (fun b o hb e => (sb.2 b hb).trans e) f0 f1 f3 f4 f5
    obtain ⟨o, e, c, d⟩ := id st'
    exact ⟨u, rfl, go_of (s := { s with heap := h' }) e c d (by decide) ⟨x, H, I1, ru, ⟨rfl, fun ys hy => by rw [I.list_inj hy hq]; exact hx⟩, st', fun b hb => (hf b hb).1⟩⟩
  done := by
    intro X hP hw hK hc i pins s σ H E I hf st hg
    subst hP hw hK
    obtain ⟨xs, hq, hx⟩ := hg
    obtain ⟨its, rv, p, hz⟩ := I.list hq
    obtain ⟨f0, f1, f2, f3, f4, f5⟩ := hf it (by simp)
    have hl := rv.length
    exact wpAny_pyNext_list_end (I.ok.hd hc) st p.isList (by simp; omega) fun h' eb => ⟨rfl, I.turned (t' := s.toks) (fun b o hb e => eb b o hb e) f0 f1 f3 f4 f5⟩
  self := fun _ _ _ _ _ st h => wpAny_pyIter_listiter st h
theorem turn_range {P : Program} {w : World} {K : PySem.W.Frag} {tg : Expr} (it : Addr) (lo : Int) (n : Nat) : Turn P w K tg (Itr lo n) [it] it (fun i h => IsRangeIter h it (lo + (i : Nat) * 1) ((n : Int) - (i : Nat)) 1) where
  mem := by simp
  obj := fun i h st b hb => by
    have e : b = it := by simpa using hb
    subst e
    exact ⟨_, st, fun v z => by
      have z' : Data.fields _ = Data.cell v := z
      cases z'⟩
  keep := fun i h h' st k => k it (by simp) _ st
  item := by
    intro X hP hw hK hc i pins s σ H E I hf st hg
    subst hP hw hK
    obtain ⟨f0, f1, f2, f3, f4, f5⟩ := hf it (by simp)
    have W := Walks.range (prog := X.prog) (w := X.w) (I.ok.hd hc) it lo 1 n
    refine W.item i s _ _ hg st fun v h' tk hv st' kk => ?_
    obtain ⟨t, rfl⟩ := hv
    have I1 : Inv X pins σ H { s with heap := h', toks := tk } := I.turned (fun b o hb e => kk b o (by simpa using hb) e) f0 f1 f3 f4 f5
    refine ⟨_, rfl, go_of (s := { s with heap := h', toks := tk }) (n := "range_iterator") st' rfl rfl (by decide) ⟨.int (lo + i), H, I1, ⟨t, ?_⟩, ⟨rfl, rfl⟩, st', fun b hb => (hf b hb).1⟩⟩
    rw [Int.mul_one]
  done := by
    intro X hP hw hK hc i pins s σ H E I hf st hg
    subst hP hw hK
    obtain ⟨f0, f1, f2, f3, f4, f5⟩ := hf it (by simp)
    exact wpAny_pyNext_range_end (I.ok.hd hc) st (by have : n ≤ i := hg; omega) fun h' eb => ⟨rfl, I.turned (t' := s.toks) (fun b o hb e => eb b o hb e) f0 f1 f3 f4 f5⟩
  self := fun _ _ _ _ _ st h => wpAny_pyIter_rangeiter st h
end L2
namespace L2
open PySem PySem.Spec PyProof.Rows
section
variable {X : Cx} {tg : Expr}
def iList (K : PySem.W.Frag) (tl : TE) : TI := fun σ H R => tl σ H fun x H1 => ∃ a, x = .ref a ∧ (∃ xs, SqL K H1 a xs) ∧ R (Itl K a) H1
theorem pi_list {l : Expr} {tl : TE} (hl : PE X l tl) : PI X tg l (iList X.K tl) := by
  intro pins s σ H R I h
  refine thn (hl pins s σ H _ I h) fun v s1 ⟨x, H1, I1, r1, q1⟩ => ?_
  obtain ⟨a, e, ⟨xs, hq⟩, q⟩ := q1
  subst e
  cases r1
  obtain ⟨its, rv, p, hz⟩ := I1.list hq
  refine wpAny_pyIter_list p.isList ?_
  refine ⟨s1.heap.objs.size, [s1.heap.objs.size], _, _, H1, rfl, I1.kept (t' := s1.toks) fun b o e => Heap.get?_push_of_some _ e, turn_list a _, ⟨_, Heap.get?_push_size _ rfl, rfl, rfl⟩, fun b hb => ?_, q⟩
  have e : b = s1.heap.objs.size := by simpa using hb
  subst e
  exact I1.fpOk (Nat.le_refl _) (I1.hok.fresh (Nat.le_refl _))
theorem range_it {pins : List (Addr × Obj)} {σ : St} {H : Hp} {s : Shared} {R : It → Hp → Prop} {E : Value → Shared → Prop} {lo hi : Int} {t u v : Tok} {tk : Nat} (I : Inv X pins σ H s) (h1 : -(2 ^ 62) ≤ lo) (h2 : lo < 2 ^ 62) (h3 : -(2 ^ 62) ≤ hi) (h4 : hi < 2 ^ 62)
    (q : R (Itr lo (hi - lo).toNat) H) : wpAny (model X.prog X.w) X.A (pyIter (.ref s.heap.objs.size)) (PIE X pins σ tg R) E { s with heap := s.heap.push { cls := .type "range", data := .fields #[.int lo t, .int hi u, .int 1 v] }, toks := tk } := by
  refine wpAny_pyIter_range (IsRange.new ..) (small_one h1 h2 h3 h4) ?_
  have I1 : Inv X pins σ H { s with heap := s.heap.push { cls := .type "range", data := .fields #[.int lo t, .int hi u, .int 1 v] }, toks := tk } := I.kept fun b o e => Heap.get?_push_of_some _ e
  refine ⟨(s.heap.push { cls := .type "range", data := .fields #[.int lo t, .int hi u, .int 1 v] }).objs.size, [(s.heap.push { cls := .type "range", data := .fields #[.int lo t, .int hi u, .int 1 v] }).objs.size], _, _, H, rfl,
    I1.kept (t' := tk) fun b o e => Heap.get?_push_of_some _ e, turn_range _ lo (hi - lo).toNat, ?_, fun b hb => ?_, q⟩
  · have e1 : lo + ((0 : Nat) : Int) * 1 = lo := by simp
    have e2 : (((hi - lo).toNat : Nat) : Int) - ((0 : Nat) : Int) = Builtin.Range.rangeSize lo hi 1 := by rw [rangeSize_one]; split <;> omega
    show IsRangeIter _ _ (lo + ((0 : Nat) : Int) * 1) ((((hi - lo).toNat : Nat) : Int) - ((0 : Nat) : Int)) 1
    rw [e1, e2]
    exact Heap.get?_push_size _ rfl
  · have e : b = (s.heap.push { cls := .type "range", data := .fields #[.int lo t, .int hi u, .int 1 v] }).objs.size := by simpa using hb
    subst e
    exact I1.fpOk (Nat.le_refl _) (I1.hok.fresh (Nat.le_refl _))
def iRng1 (ta : TA) : TI := fun σ H R => ta σ H fun vs H1 => ∃ j : Int, vs = [.int j] ∧ -(2 ^ 62) ≤ j ∧ j < 2 ^ 62 ∧ R (Itr 0 j.toNat) H1
theorem pi_range1 {a : Expr} {ta : TA} {p pos : Pos} (hg : Gl X "range") (hm : X.mg "range" = none) (ha : PA X [a] ta) (hs : starEach [a] X.env = [(false, eval a X.env)] := by rfl) : PI X tg (.Call (.Name "range" p) [a] [] pos) (iRng1 ta) := by
  intro pins s σ H R I h
  refine Call_ (ld_blt I hg hm boot_range (PyProof.Rows.callWith_type1 (thn (ha pos pins s σ H _ I h) fun us s1 ⟨vs, H1, I1, r1, q1⟩ => ?_) hs rfl))
  obtain ⟨j, e, q1, q2, q⟩ := q1
  subst e
  cases r1 with
  | cons r rr =>
    cases rr
    obtain ⟨t, rfl⟩ := r
    exact call_range_1 (range_it I1 (by omega) (by omega) q1 q2 (by simpa using q))
def tFor (wi : TI) (g : TG) (tb : TS) : TS := fun D σ H => wi σ H fun J H1 => ∃ W : Nat → Nat → St → Hp → Prop, (∃ m, W 0 m σ H1) ∧ ∀ i m σ H, W i m σ H →
  (J.stop i H ∧ D.nx σ H) ∨ (J.go i H ∧ ∃ N : St → Hp → Prop, (∀ σ' H', N σ' H' → ∃ m', m' < m ∧ W (i + 1) m' σ' H') ∧ ∀ x H', J.yld i H x H' → g x σ H' fun σ2 H2 => tb { D with nx := N, ct := N, bk := D.nx } σ2 H2)
def pinsAt (fp : List Addr) (h : Heap) : List (Addr × Obj) := fp.filterMap fun b => (h.get? b).map fun o => (b, o)
theorem mem_pinsAt {fp : List Addr} {h : Heap} {b : Addr} {o : Obj} (hb : b ∈ fp) (e : h.get? b = some o) : (b, o) ∈ pinsAt fp h := List.mem_filterMap.mpr ⟨b, hb, by rw [e]; rfl⟩
theorem of_pinsAt {fp : List Addr} {h : Heap} {p : Addr × Obj} (hp : p ∈ pinsAt fp h) : p.1 ∈ fp ∧ h.get? p.1 = some p.2 := by
  obtain ⟨b, hb, e⟩ := List.mem_filterMap.mp hp
  cases q : h.get? b with
  | none => rw [q] at e; cases e
  | some o =>
    rw [q] at e
    have e' : (b, o) = p := Option.some.inj e
    subst e'
    exact ⟨hb, q⟩
theorem Inv.pinned {pins : List (Addr × Obj)} {σ : St} {H : Hp} {s : Shared} {fp : List Addr} (I : Inv X pins σ H s) (hf : ∀ b ∈ fp, FpOk X pins H b) (ho : ∀ b ∈ fp, ∃ o, s.heap.get? b = some o ∧ ∀ v, o.data ≠ .cell v) : Inv X (pins ++ pinsAt fp s.heap) σ H s :=
  I.pins_of fun p hp => (List.mem_append.mp hp).elim (fun z => I.pin p (List.mem_append_right _ z)) fun z => by
    obtain ⟨hb, e⟩ := of_pinsAt z
    obtain ⟨f0, f1, f2, _⟩ := hf p.1 hb
    obtain ⟨o, e', d⟩ := ho p.1 hb
    rw [e] at e'; cases e'
    exact ⟨e, f0, f1, f2, d⟩
theorem Inv.unpinned {pins pl : List (Addr × Obj)} {σ : St} {H : Hp} {s : Shared} (I : Inv X (pins ++ pl) σ H s) : Inv X pins σ H s := I.pins_of fun p hp => I.pin p (List.mem_append_right _ (List.mem_append_left _ hp))
theorem ps_for {iter : Expr} {body : List Stmt} {wi : TI} {g : TG} {tb : TS} {pos : Pos} (hp : PassesOwn (model X.prog X.w) X.A X.env X.xe) (hc : X.calm = true) (hi : PI X tg iter wi) (hg : PG X tg g) (hb : PSs X body tb)
    (hs : ∀ x, foldedSetIterable iter X.env x = pure x := by intro _; rfl) : PS X (.For tg iter body [] pos) (tFor wi g tb) := by
  intro pins s σ H D I h
  refine wpAny_For (thn (hi pins s σ H _ I h) fun v s1 h1 => thn h1 fun itv s2 h2 => ?_) hs
  obtain ⟨it, fp, tn, J, H2, e, I2, T, st2, f2, W, ⟨m0, w0⟩, turn⟩ := h2
  subst e
  have stat : ∀ {H' : Hp}, (∀ b ∈ fp, H' b = none) → ∀ b ∈ fp, FpOk X pins H' b := fun hn b hb => ⟨hn b hb, (f2 b hb).2⟩
  refine codeAny_forLoop_any (fun n s' => ∃ i σ' H', Inv X pins σ' H' s' ∧ tn i s'.heap ∧ (∀ b ∈ fp, H' b = none) ∧ W i n σ' H') ?_ m0 ⟨0, σ, H2, I2, st2, fun b hb => (f2 b hb).1, w0⟩
  rintro n s3 ⟨i, σ3, H3, I3, st3, fr3, w3⟩
  rcases turn i n σ3 H3 w3 with ⟨stop, qn⟩ | ⟨go, N, hN, step⟩
  · refine wpAny_passesOwn hp (thn (T.done X rfl rfl rfl hc i pins s3 σ3 H3 X.xe I3 (stat fr3) st3 stop) fun r s4 ⟨hr, I4⟩ => ?_)
    subst hr
    exact wpAny_execs_nil ⟨σ3, H3, I4, qn⟩
  · refine wpAny_passesOwn hp (thn (T.item X rfl rfl rfl hc i pins s3 σ3 H3 X.xe I3 (stat fr3) st3 go) fun r s4 ⟨u, hr, h4⟩ => ?_)
    subst hr
    refine wpAny_passesOwn hp (thn h4 fun _ s5 ⟨x, H5, I5, r5, y5, st5, fr5⟩ => ?_)
    have I5' := I5.pinned (stat fr5) (T.obj _ _ st5)
    refine wpAny_passesOwn hp (thn (hg _ s5 σ3 H5 x u _ I5' r5 (step x H5 y5)) fun _ s6 ⟨σ6, H6, I6, q6⟩ => ?_)
    refine wpAny_passesOwn hp (thn (hb _ s6 σ6 H6 _ I6 q6) fun f s7 q7 => ?_)
    have again : ∀ {σ7 : St} {H7 : Hp}, Inv X (pins ++ pinsAt fp s5.heap) σ7 H7 s7 → N σ7 H7 → ∃ m, m < n ∧ ∃ i σ' H', Inv X pins σ' H' s7 ∧ tn i s7.heap ∧ (∀ b ∈ fp, H' b = none) ∧ W i m σ' H' := fun {σ7 H7} I7 n7 => by
      obtain ⟨m', hm, w7⟩ := hN σ7 H7 n7
      refine ⟨m', hm, i + 1, σ7, H7, I7.unpinned, T.keep _ _ _ st5 fun b hb o e => (I7.pin (b, o) (List.mem_append_right _ (List.mem_append_right _ (mem_pinsAt hb e)))).1, fun b hb => ?_, w7⟩
      obtain ⟨o, e, d⟩ := T.obj _ _ st5 b hb
      exact (I7.pin (b, o) (List.mem_append_right _ (List.mem_append_right _ (mem_pinsAt hb e)))).2.1
    cases f with
    | next => obtain ⟨σ7, H7, I7, n7⟩ := q7; exact again I7 n7
    | cont => obtain ⟨σ7, H7, I7, n7⟩ := q7; exact again I7 n7
    | brk => obtain ⟨σ7, H7, I7, q7⟩ := q7; exact ⟨σ7, H7, I7.unpinned, q7⟩
    | ret v => obtain ⟨x7, σ7, H7, I7, r7, q7⟩ := q7; exact ⟨x7, σ7, H7, I7.unpinned, r7, q7⟩
end
theorem for_list {K : PySem.W.Frag} {a : Addr} {xs : List V} {g : TG} {tb : TS} {D : Ends} {σ : St} {H : Hp} (Pv : Nat → St → Hp → Prop) (h0 : Pv 0 σ H) (hl : ∀ i σ H, i ≤ xs.length → Pv i σ H → SqL K H a xs)
    (hs : ∀ i x σ H, xs[i]? = some x → Pv i σ H → g x σ H fun σ2 H2 => tb { D with nx := Pv (i + 1), ct := Pv (i + 1), bk := D.nx } σ2 H2) (hd : ∀ σ H, Pv xs.length σ H → D.nx σ H) :
    ∃ W : Nat → Nat → St → Hp → Prop, (∃ m, W 0 m σ H) ∧ ∀ i m σ H, W i m σ H →
      ((Itl K a).stop i H ∧ D.nx σ H) ∨ ((Itl K a).go i H ∧ ∃ N : St → Hp → Prop, (∀ σ' H', N σ' H' → ∃ m', m' < m ∧ W (i + 1) m' σ' H') ∧ ∀ x H', (Itl K a).yld i H x H' → g x σ H' fun σ2 H2 => tb { D with nx := N, ct := N, bk := D.nx } σ2 H2) := by
  refine ⟨fun i m σ H => m = xs.length - i ∧ i ≤ xs.length ∧ Pv i σ H, ⟨xs.length, by simp, Nat.zero_le _, h0⟩, ?_⟩
  rintro i m σ H ⟨rfl, hi, p⟩
  have q := hl i σ H hi p
  by_cases hlt : i < xs.length
  · refine .inr ⟨⟨xs, xs[i], q, by simp [hlt]⟩, Pv (i + 1), fun σ' H' p' => ⟨xs.length - (i + 1), by omega, rfl, hlt, p'⟩, fun x H' y => ?_⟩
    obtain ⟨e, y⟩ := y
    subst e
    exact hs i x σ _ (y xs q) p
  · have e : i = xs.length := by omega
    subst e
    exact .inl ⟨⟨xs, q, Nat.le_refl _⟩, hd σ H p⟩
theorem for_range {lo : Int} {n : Nat} {g : TG} {tb : TS} {D : Ends} {σ : St} {H : Hp} (Pv : Nat → St → Hp → Prop) (h0 : Pv 0 σ H)
    (hs : ∀ i σ H, i < n → Pv i σ H → g (.int (lo + i)) σ H fun σ2 H2 => tb { D with nx := Pv (i + 1), ct := Pv (i + 1), bk := D.nx } σ2 H2) (hd : ∀ σ H, Pv n σ H → D.nx σ H) :
    ∃ W : Nat → Nat → St → Hp → Prop, (∃ m, W 0 m σ H) ∧ ∀ i m σ H, W i m σ H →
      ((Itr lo n).stop i H ∧ D.nx σ H) ∨ ((Itr lo n).go i H ∧ ∃ N : St → Hp → Prop, (∀ σ' H', N σ' H' → ∃ m', m' < m ∧ W (i + 1) m' σ' H') ∧ ∀ x H', (Itr lo n).yld i H x H' → g x σ H' fun σ2 H2 => tb { D with nx := N, ct := N, bk := D.nx } σ2 H2) := by
  refine ⟨fun i m σ H => m = n - i ∧ i ≤ n ∧ Pv i σ H, ⟨n, by simp, Nat.zero_le _, h0⟩, ?_⟩
  rintro i m σ H ⟨rfl, hi, p⟩
  by_cases hlt : i < n
  · refine .inr ⟨hlt, Pv (i + 1), fun σ' H' p' => ⟨n - (i + 1), by omega, rfl, hlt, p'⟩, fun x H' y => ?_⟩
    obtain ⟨e, y⟩ := y
    subst e y
    exact hs i σ _ hlt p
  · have e : i = n := by omega
    subst e
    exact .inl ⟨Nat.le_refl _, hd σ H p⟩
end L2
namespace L2
open PySem PySem.Spec PyProof.Rows
abbrev R2 := V → V → Hp → VK → Prop
def OpR (X : Cx) (f : Value → Value → Sem Value) (r : R2) : Prop :=
  ∀ (pins : List (Addr × Obj)) (s : Shared) (σ : St) (H : Hp) (x y : V) (v u : Value) (Q : VK), Inv X pins σ H s → RelV x v → RelV y u → r x y H Q →
    wpAny (model X.prog X.w) X.A (f v u) (EP X pins σ Q) X.xe s
def UnR (X : Cx) (f : Value → Sem Value) (r : V → Hp → VK → Prop) : Prop :=
  ∀ (pins : List (Addr × Obj)) (s : Shared) (σ : St) (H : Hp) (x : V) (v : Value) (Q : VK), Inv X pins σ H s → RelV x v → r x H Q →
    wpAny (model X.prog X.w) X.A (f v) (EP X pins σ Q) X.xe s
def CallR (X : Cx) (f : Value) (r : List V → Hp → VK → Prop) : Prop :=
  ∀ (pins : List (Addr × Obj)) (s : Shared) (σ : St) (H : Hp) (xs : List V) (us : List Value) (Q : VK), Inv X pins σ H s → Vals xs us → r xs H Q →
    wpAny (model X.prog X.w) X.A (call f us) (EP X pins σ Q) X.xe s
def TruR (X : Cx) (r : V → Hp → (Bool → Hp → Prop) → Prop) : Prop :=
  ∀ (pins : List (Addr × Obj)) (s : Shared) (σ : St) (H : Hp) (x : V) (v : Value) (Q : Bool → Hp → Prop), Inv X pins σ H s → RelV x v → r x H Q →
    wpAny (model X.prog X.w) X.A (truthy v) (TP X pins σ Q) X.xe s
def tOp (r : R2) (ta tb : TE) : TE := fun σ H Q => ta σ H fun x H1 => tb σ H1 fun y H2 => r x y H2 Q
def tUn (r : V → Hp → VK → Prop) (ta : TE) : TE := fun σ H Q => ta σ H fun x H1 => r x H1 Q
def rI (C : Int → Int → Prop) (g : Int → Int → V) : R2 := fun x y H Q => ∃ i j, x = .int i ∧ y = .int j ∧ C i j ∧ Q (g i j) H
def rI0 (g : Int → Int → V) : R2 := fun x y H Q => ∃ i j, x = .int i ∧ y = .int j ∧ Q (g i j) H
def rU (g : Int → V) : V → Hp → VK → Prop := fun x H Q => ∃ i, x = .int i ∧ Q (g i) H
section
variable {X : Cx} {a b c : Expr} {ta tb tc : TE} {pos : Pos}
theorem binT (ha : PE X a ta) (hb : PE X b tb) {pins : List (Addr × Obj)} {s : Shared} {σ : St} {H : Hp} {R : V → V → Hp → Prop} (I : Inv X pins σ H s)
    (h : ta σ H fun x H1 => tb σ H1 fun y H2 => R x y H2) {Q : Value → Shared → Prop} {f : Value → Value → Sem Value}
    (hf : ∀ v u s2 x y H2, Inv X pins σ H2 s2 → RelV x v → RelV y u → R x y H2 → wpAny (model X.prog X.w) X.A (f v u) Q X.xe s2) :
    wpAny (model X.prog X.w) X.A (eval a X.env) (fun v s₁ => wpAny (model X.prog X.w) X.A (eval b X.env) (fun u s₂ => wpAny (model X.prog X.w) X.A (f v u) Q X.xe s₂) X.xe s₁) X.xe s := by
  refine thn (ha pins s σ H _ I h) fun v s1 ⟨x, H1, I1, r1, q1⟩ => ?_
  refine thn (hb pins s1 σ H1 _ I1 q1) fun u s2 ⟨y, H2, I2, r2, q2⟩ => ?_
  exact hf v u s2 x y H2 I2 r1 r2 q2
theorem pe_op {op : Operator} {r : R2} (ho : OpR X (binaryOp op) r) (ha : PE X a ta) (hb : PE X b tb) : PE X (.BinOp a op b pos) (tOp r ta tb) := by
  intro pins s σ H Q I h
  exact wpAny_BinOp (binT ha hb I h fun v u s2 x y H2 I2 rx ry q => ho pins s2 σ H2 x y v u Q I2 rx ry q)
theorem pe_un {op : UnaryOp} {r : V → Hp → VK → Prop} (ho : UnR X (unaryOp op) r) (ha : PE X a ta) : PE X (.UnaryOp op a pos) (tUn r ta) := by
  intro pins s σ H Q I h
  exact UnaryOp_ (thn (ha pins s σ H _ I h) fun v s1 ⟨x, H1, I1, r1, q1⟩ => ho pins s1 σ H1 x v Q I1 r1 q1)
theorem opI {f : Value → Value → Sem Value} {C : Int → Int → Prop} {g : Int → Int → Int}
    (rule : ∀ (i j : Int) (t u : Tok) (s : Shared) (Q : Value → Shared → Prop) (E : Value → Shared → Prop), C i j → Q (.int (g i j) s.toks) { s with toks := s.toks + 1 } → wpAny (model X.prog X.w) X.A (f (.int i t) (.int j u)) Q E s) :
    OpR X f (rI C fun i j => .int (g i j)) := by
  intro pins s σ H x y v u Q I rx ry h
  obtain ⟨i, j, rfl, rfl, hc, q⟩ := h
  obtain ⟨t, rfl⟩ := rx
  obtain ⟨t', rfl⟩ := ry
  exact rule i j t t' s _ _ hc ⟨.int (g i j), H, I.tok _, ⟨_, rfl⟩, q⟩
theorem opI0 {f : Value → Value → Sem Value} {g : Int → Int → Int}
    (rule : ∀ (i j : Int) (t u : Tok) (s : Shared) (Q : Value → Shared → Prop) (E : Value → Shared → Prop), Q (.int (g i j) s.toks) { s with toks := s.toks + 1 } → wpAny (model X.prog X.w) X.A (f (.int i t) (.int j u)) Q E s) :
    OpR X f (rI0 fun i j => .int (g i j)) := by
  intro pins s σ H x y v u Q I rx ry h
  obtain ⟨i, j, rfl, rfl, q⟩ := h
  obtain ⟨t, rfl⟩ := rx
  obtain ⟨t', rfl⟩ := ry
  exact rule i j t t' s _ _ ⟨.int (g i j), H, I.tok _, ⟨_, rfl⟩, q⟩
theorem opB0 {f : Value → Value → Sem Value} {g : Int → Int → Bool}
    (rule : ∀ (i j : Int) (t u : Tok) (s : Shared) (Q : Value → Shared → Prop) (E : Value → Shared → Prop), Q (.bool (g i j)) s → wpAny (model X.prog X.w) X.A (f (.int i t) (.int j u)) Q E s) :
    OpR X f (rI0 fun i j => .bl (g i j)) := by
  intro pins s σ H x y v u Q I rx ry h
  obtain ⟨i, j, rfl, rfl, q⟩ := h
  obtain ⟨t, rfl⟩ := rx
  obtain ⟨t', rfl⟩ := ry
  exact rule i j t t' s _ _ ⟨.bl (g i j), H, I, rfl, q⟩
def CDiv (i j : Int) : Prop := 0 < j ∧ j < 1073741824
def CMul (i j : Int) : Prop := (-(2 ^ 64) < i ∧ i < 2 ^ 64) ∨ (-(2 ^ 64) < j ∧ j < 2 ^ 64)
theorem CMul.ok {i j : Int} (h : CMul i j) : IntMulOk i j := by
  rcases h with ⟨h1, h2⟩ | ⟨h1, h2⟩
  · exact .of_left (intBits_le_64 h1 h2)
  · exact .of_right (intBits_le_64 h1 h2)
theorem op_add : OpR X (binaryOp .Add) (rI0 fun i j => .int (i + j)) := opI0 fun _ _ _ _ _ _ _ q => add_int q
theorem op_sub : OpR X (binaryOp .Sub) (rI0 fun i j => .int (i - j)) := opI0 fun _ _ _ _ _ _ _ q => sub_int q
theorem op_mul : OpR X (binaryOp .Mult) (rI CMul fun i j => .int (i * j)) := opI fun _ _ _ _ _ _ _ hc q => mul_int q hc.ok
theorem op_fdiv : OpR X (binaryOp .FloorDiv) (rI CDiv fun i j => .int (i / j)) := opI fun i j _ _ _ _ _ hc q => by
  have h1 : (0 : Int) < j := hc.1
  have h2 : j < 1073741824 := hc.2
  exact floordiv_int (by omega) (by rw [Int.fdiv_eq_ediv_of_nonneg i (by omega)]; exact q) (.inl (PyProof.noPylong_small (by omega)))
theorem op_mod : OpR X (binaryOp .Mod) (rI (fun _ j => 0 < j) fun i j => .int (i % j)) := opI fun i j _ _ _ _ _ hc q => by
  have h1 : (0 : Int) < j := hc
  exact mod_int' (by omega) (by rw [Int.fmod_eq_emod_of_nonneg i (by omega)]; exact q)
theorem unI {f : Value → Sem Value} {g : Int → Int}
    (rule : ∀ (i : Int) (t : Tok) (s : Shared) (Q : Value → Shared → Prop) (E : Value → Shared → Prop), Q (.int (g i) s.toks) { s with toks := s.toks + 1 } → wpAny (model X.prog X.w) X.A (f (.int i t)) Q E s) :
    UnR X f (rU fun i => .int (g i)) := by
  intro pins s σ H x v Q I rx h
  obtain ⟨i, rfl, q⟩ := h
  obtain ⟨t, rfl⟩ := rx
  exact rule i t s _ _ ⟨.int (g i), H, I.tok _, ⟨_, rfl⟩, q⟩
theorem un_neg : UnR X (unaryOp .USub) (rU fun i => .int (-i)) := unI fun _ _ _ _ _ q => neg_int q
end
def scal : V → V → Bool
  | .non, .non => true | .non, .int _ => true | .int _, .non => true | .non, .bl _ => true | .bl _, .non => true | .non, .str _ => true | .str _, .non => true
  | .int _, .int _ => true | .bl _, .bl _ => true | .str _, .str _ => true | .byt _, .byt _ => true
  | .int _, .str _ => true | .str _, .int _ => true | .bl _, .str _ => true | .str _, .bl _ => true
  | _, _ => false
def rEq : R2 := fun x y H Q => scal x y = true ∧ Q (.bl (decide (x = y))) H
def rNe : R2 := fun x y H Q => scal x y = true ∧ Q (.bl (!decide (x = y))) H
theorem dec_int {i j : Int} : decide (V.int i = V.int j) = (i == j) := by
  rw [Bool.eq_iff_iff]
  simp
theorem dec_bl {i j : Bool} : decide (V.bl i = V.bl j) = (i == j) := by
  rw [Bool.eq_iff_iff]
  simp
theorem dec_str {i j : Str} : decide (V.str i = V.str j) = (i == j) := by
  rw [Bool.eq_iff_iff]
  simp
theorem dec_byt {i j : Array UInt8} : decide (V.byt i = V.byt j) = (i.toList == j.toList) := by
  rw [Bool.eq_iff_iff]
  cases i
  cases j
  simp
section
variable {X : Cx} {a b c : Expr} {ta tb tc : TE} {pos : Pos}
theorem fin_bl {pins : List (Addr × Obj)} {σ : St} {H : Hp} {s : Shared} {Q : VK} {k k' : Bool} (I : Inv X pins σ H s) (q : Q (.bl k) H) (e : k = k') : EP X pins σ Q (.bool k') s := by
  subst e
  exact ⟨.bl k, H, I, rfl, q⟩
theorem op_eq : OpR X (compareOp .Eq) rEq := by
  intro pins s σ H x y v u Q I rx ry h
  obtain ⟨hs, q⟩ := h
  cases x with
  | non =>
    cases rx
    cases y with
    | non => cases ry; exact PySem.EqNone.eq_none_none (fin_bl I q (by simp))
    | bl j => cases ry; exact PySem.EqNone.eq_none_bool (fin_bl I q (by simp))
    | int j => obtain ⟨t', rfl⟩ := ry; exact PySem.EqNone.eq_none_int (fin_bl I q (by simp))
    | str j => obtain ⟨t', rfl⟩ := ry; exact PySem.EqNone.eq_none_str (fin_bl I q (by simp))
    | _ => exact absurd (show false = true from hs) Bool.false_ne_true
  | bl i =>
    cases rx
    cases y with
    | non => cases ry; exact PySem.EqNone.eq_bool_none (fin_bl I q (by simp))
    | bl j => cases ry; exact eq_bool (fin_bl I q dec_bl)
    | str j => obtain ⟨t', rfl⟩ := ry; exact PySem.EqMixed.eq_bool_str (fin_bl I q (by simp))
    | _ => exact absurd (show false = true from hs) Bool.false_ne_true
  | int i =>
    obtain ⟨t, rfl⟩ := rx
    cases y with
    | non => cases ry; exact PySem.EqNone.eq_int_none (fin_bl I q (by simp))
    | int j => obtain ⟨t', rfl⟩ := ry; exact eq_int (fin_bl I q dec_int)
    | str j => obtain ⟨t', rfl⟩ := ry; exact PySem.EqMixed.eq_int_str (fin_bl I q (by simp))
    | _ => exact absurd (show false = true from hs) Bool.false_ne_true
  | str i =>
    obtain ⟨t, rfl⟩ := rx
    cases y with
    | non => cases ry; exact PySem.EqNone.eq_str_none (fin_bl I q (by simp))
    | bl j => cases ry; exact PySem.EqMixed.eq_str_bool (fin_bl I q (by simp))
    | int j => obtain ⟨t', rfl⟩ := ry; exact PySem.EqMixed.eq_str_int (fin_bl I q (by simp))
    | str j => obtain ⟨t', rfl⟩ := ry; exact eq_str (fin_bl I q dec_str)
    | _ => exact absurd (show false = true from hs) Bool.false_ne_true
  | byt i =>
    obtain ⟨t, rfl⟩ := rx
    cases y with
    | byt j => obtain ⟨t', rfl⟩ := ry; exact PySem.W.eq_bytes (fin_bl I q dec_byt)
    | _ => exact absurd (show false = true from hs) Bool.false_ne_true
  | _ => cases y <;> exact absurd (show false = true from hs) Bool.false_ne_true
theorem op_ne : OpR X (compareOp .NotEq) rNe := by
  intro pins s σ H x y v u Q I rx ry h
  obtain ⟨hs, q⟩ := h
  cases x with
  | non =>
    cases rx
    cases y with
    | non => cases ry; exact PySem.EqNone.ne_none_none (fin_bl I q (by simp))
    | bl j => cases ry; exact PySem.EqNone.ne_none_bool (fin_bl I q (by simp))
    | int j => obtain ⟨t', rfl⟩ := ry; exact PySem.EqNone.ne_none_int (fin_bl I q (by simp))
    | str j => obtain ⟨t', rfl⟩ := ry; exact PySem.EqNone.ne_none_str (fin_bl I q (by simp))
    | _ => exact absurd (show false = true from hs) Bool.false_ne_true
  | bl i =>
    cases rx
    cases y with
    | non => cases ry; exact PySem.EqNone.ne_bool_none (fin_bl I q (by simp))
    | bl j => cases ry; exact ne_bool (fin_bl I q (congrArg not dec_bl))
    | str j => obtain ⟨t', rfl⟩ := ry; exact PySem.EqMixed.ne_bool_str (fin_bl I q (by simp))
    | _ => exact absurd (show false = true from hs) Bool.false_ne_true
  | int i =>
    obtain ⟨t, rfl⟩ := rx
    cases y with
    | non => cases ry; exact PySem.EqNone.ne_int_none (fin_bl I q (by simp))
    | int j => obtain ⟨t', rfl⟩ := ry; exact ne_int (fin_bl I q (congrArg not dec_int))
    | str j => obtain ⟨t', rfl⟩ := ry; exact PySem.EqMixed.ne_int_str (fin_bl I q (by simp))
    | _ => exact absurd (show false = true from hs) Bool.false_ne_true
  | str i =>
    obtain ⟨t, rfl⟩ := rx
    cases y with
    | non => cases ry; exact PySem.EqNone.ne_str_none (fin_bl I q (by simp))
    | bl j => cases ry; exact PySem.EqMixed.ne_str_bool (fin_bl I q (by simp))
    | int j => obtain ⟨t', rfl⟩ := ry; exact PySem.EqMixed.ne_str_int (fin_bl I q (by simp))
    | str j => obtain ⟨t', rfl⟩ := ry; exact ne_str (fin_bl I q (congrArg not dec_str))
    | _ => exact absurd (show false = true from hs) Bool.false_ne_true
  | byt i =>
    obtain ⟨t, rfl⟩ := rx
    cases y with
    | byt j => obtain ⟨t', rfl⟩ := ry; exact PySem.W.ne_bytes (fin_bl I q (congrArg not dec_byt))
    | _ => exact absurd (show false = true from hs) Bool.false_ne_true
  | _ => cases y <;> exact absurd (show false = true from hs) Bool.false_ne_true
theorem op_lt : OpR X (compareOp .Lt) (rI0 fun i j => .bl (decide (i < j))) := opB0 fun _ _ _ _ _ _ _ q => lt_int q
theorem op_le : OpR X (compareOp .LtE) (rI0 fun i j => .bl (decide (i ≤ j))) := opB0 fun _ _ _ _ _ _ _ q => le_int q
theorem op_gt : OpR X (compareOp .Gt) (rI0 fun i j => .bl (decide (j < i))) := opB0 fun _ _ _ _ _ _ _ q => gt_int q
theorem op_in_str : OpR X (compareOp .In) (fun x y H Q => ∃ i j, x = .str i ∧ y = .str j ∧ Q (.bl (!(Builtin.Str.occurrences j i 0 j.length 1).isEmpty)) H) := by
  intro pins s σ H x y v u Q I rx ry h
  obtain ⟨i, j, rfl, rfl, q⟩ := h
  obtain ⟨t, rfl⟩ := rx
  obtain ⟨t', rfl⟩ := ry
  exact in_str (fin_bl I q rfl)
theorem op_isN : OpR X (compareOp .Is) (fun x y H Q => y = .non ∧ Q (.bl (decide (x = .non))) H) := by
  intro pins s σ H x y v u Q I rx ry h
  obtain ⟨rfl, q⟩ := h
  cases ry
  refine is_none_gen (fin_bl I q ?_)
  cases x <;> first
    | (cases rx; rfl)
    | (obtain ⟨t, rfl⟩ := rx; rfl)
theorem nomark (b : Expr) {op : CmpOp} (h : op ≠ .In := by decide) (h2 : op ≠ .NotIn := by decide) : behindInMarks op b = false := by
  have e1 : (op == CmpOp.In) = false := by cases op <;> first | rfl | exact absurd rfl h
  have e2 : (op == CmpOp.NotIn) = false := by cases op <;> first | rfl | exact absurd rfl h2
  cases b <;> simp [behindInMarks, e1, e2]
theorem pe_cmpR {op : CmpOp} {r : R2} (ho : OpR X (compareOp op) r) (ha : PE X a ta) (hb : PE X b tb) (hm : behindInMarks op b = false) : PE X (.Compare a [op] [b] pos) (tOp r ta tb) := by
  intro pins s σ H Q I h
  exact wpAny_Compare1 (binT ha hb I h fun v u s2 x y H2 I2 rx ry q => ho pins s2 σ H2 x y v u Q I2 rx ry q) hm
def tTest (t : TE) : TT := fun σ H Q => t σ H fun x H' => ∃ k, x = .bl k ∧ Q k H'
theorem pt_cmpR {op : CmpOp} {r : R2} (ho : OpR X (compareOp op) r) (ha : PE X a ta) (hb : PE X b tb) (hm : behindInMarks op b = false) : PT X (.Compare a [op] [b] pos) (tTest (tOp r ta tb)) := by
  intro pins s σ H Q I h
  refine wpAny_isTrue_Compare1 (thn (ha pins s σ H _ I h) fun v s1 ⟨x, H1, I1, r1, q1⟩ => thn (hb pins s1 σ H1 _ I1 q1) fun u s2 ⟨y, H2, I2, r2, q2⟩ =>
    thn (ho pins s2 σ H2 x y v u _ I2 r1 r2 q2) fun c s3 ⟨z, H3, I3, r3, k, e, q3⟩ => ?_) hm
  subst e
  cases r3
  exact wpAny_truthy_bool ⟨H3, I3, q3⟩
def tChain (r r' : R2) (ta tb tc : TE) : TE := fun σ H Q => ta σ H fun x H1 => tb σ H1 fun y H2 => r x y H2 fun z H3 => ∃ k, z = .bl k ∧
  (if k = true then tc σ H3 fun w' H4 => r' y w' H4 Q else Q (.bl false) H3)
theorem pe_chain {op op' : CmpOp} {r r' : R2} (ho : OpR X (compareOp op) r) (ho' : OpR X (compareOp op') r') (ha : PE X a ta) (hb : PE X b tb) (hc : PE X c tc)
    (hm : lastMarks [op, op'] [b, c] = false := by with_unfolding_all rfl) : PE X (.Compare a [op, op'] [b, c] pos) (tChain r r' ta tb tc) := by
  intro pins s σ H Q I h
  refine Compare_chain (thn (ha pins s σ H _ I h) fun v s1 ⟨x, H1, I1, r1, q1⟩ => chain_link (thn (hb pins s1 σ H1 _ I1 q1) fun u s2 ⟨y, H2, I2, r2, q2⟩ =>
    thn (ho pins s2 σ H2 x y v u _ I2 r1 r2 q2) fun d s3 ⟨z, H3, I3, r3, k, e, q3⟩ => ?_)) hm
  subst e
  cases r3
  refine wpAny_truthy_bool ?_
  cases k with
  | false => exact ite_ff ⟨.bl false, H3, I3, rfl, q3⟩
  | true => exact ite_tt (chain_last (thn (hc pins s3 σ H3 _ I3 q3) fun w' s4 ⟨z', H4, I4, r4, q4⟩ => ho' pins s4 σ H4 y z' u w' Q I4 r2 r4 q4))
theorem pt_chain {op op' : CmpOp} {r r' : R2} (ho : OpR X (compareOp op) r) (ho' : OpR X (compareOp op') r') (ha : PE X a ta) (hb : PE X b tb) (hc : PE X c tc)
    (hm : lastMarks [op, op'] [b, c] = false := by with_unfolding_all rfl) : PT X (.Compare a [op, op'] [b, c] pos) (tTest (tChain r r' ta tb tc)) := by
  intro pins s σ H Q I h
  refine isTrue_chain (thn (ha pins s σ H _ I h) fun v s1 ⟨x, H1, I1, r1, q1⟩ => test_link (thn (hb pins s1 σ H1 _ I1 q1) fun u s2 ⟨y, H2, I2, r2, q2⟩ =>
    thn (ho pins s2 σ H2 x y v u _ I2 r1 r2 q2) fun d s3 ⟨z, H3, I3, r3, k, e, q3⟩ => ?_)) hm
  subst e
  cases r3
  refine wpAny_truthy_bool ?_
  cases k with
  | false =>
    obtain ⟨k', e', q'⟩ := q3
    cases e'
    exact ite_ff ⟨H3, I3, q'⟩
  | true =>
    refine ite_tt (test_last (thn (hc pins s3 σ H3 _ I3 q3) fun w' s4 ⟨z', H4, I4, r4, q4⟩ => thn (ho' pins s4 σ H4 y z' u w' _ I4 r2 r4 q4) fun d' s5 ⟨z2, H5, I5, r5, k2, e2, q5⟩ => ?_))
    subst e2
    cases r5
    exact wpAny_truthy_bool ⟨H5, I5, q5⟩
def TruV (K : PySem.W.Frag) (x : V) (H : Hp) (k : Bool) : Prop :=
  match x with
  | .non => k = false
  | .bl b => k = b
  | .int i => k = (i != 0)
  | .str y => y.length ≤ sizeLine ∧ k = ((y.length : Int) != 0)
  | .byt y => y.size ≤ sizeLine ∧ k = ((y.size : Int) != 0)
  | .ref p => (∃ xs, SqL K H p xs ∧ k = !xs.isEmpty) ∨ (∃ xs, SqT K H p xs ∧ k = !xs.isEmpty) ∨ ∃ kvs, H p = some (.dK kvs) ∧ k = !kvs.isEmpty
  | _ => False
theorem isEmpty_kv {κ : Type} {kvs : List (κ × V)} {vs : List (κ × Value)} (r : KV kvs vs) : (!vs.isEmpty) = !kvs.isEmpty := by
  cases r <;> rfl
theorem isEmpty_of {xs : List V} {its : List Value} (r : Vals xs its) : (!its.toArray.isEmpty) = !xs.isEmpty := by
  cases r <;> simp
theorem line63 : (sizeLine : Nat) < 2 ^ 63 := by rw [sizeLine_eq]; decide
theorem tru_ok : TruR X (fun x H Q => ∃ k, TruV X.K x H k ∧ Q k H) := by
  intro pins s σ H x v Q I rx h
  obtain ⟨k, e, q⟩ := h
  have hl := line63
  have hs : sizeLine = 16777216 := sizeLine_eq
  cases x with
  | non =>
    cases rx
    have e' : k = false := e
    subst e'
    exact truthy_none ⟨H, I, q⟩
  | bl b =>
    cases rx
    have e' : k = b := e
    subst e'
    exact wpAny_truthy_bool ⟨H, I, q⟩
  | int i =>
    obtain ⟨t, rfl⟩ := rx
    have e' : k = (i != 0) := e
    subst e'
    exact PySem.P.truthy_int ⟨H, I, q⟩
  | str y =>
    obtain ⟨t, rfl⟩ := rx
    obtain ⟨hy, e'⟩ : y.length ≤ sizeLine ∧ k = ((y.length : Int) != 0) := e
    subst e'
    exact PySem.P.truthy_str (by omega) ⟨H, I.tok _, q⟩
  | byt y =>
    obtain ⟨t, rfl⟩ := rx
    obtain ⟨hy, e'⟩ : y.size ≤ sizeLine ∧ k = ((y.size : Int) != 0) := e
    subst e'
    exact PySem.W.truthy_bytes (by omega) ⟨H, I.tok _, q⟩
  | ref p =>
    cases rx
    have e' : (∃ xs, SqL X.K H p xs ∧ k = !xs.isEmpty) ∨ (∃ xs, SqT X.K H p xs ∧ k = !xs.isEmpty) ∨ ∃ kvs, H p = some (.dK kvs) ∧ k = !kvs.isEmpty := e
    rcases e' with ⟨xs, hx, e'⟩ | ⟨xs, hx, e'⟩ | ⟨kvs, hx, e'⟩
    · subst e'
      obtain ⟨its, r, pl, hz⟩ := I.list hx
      have hlen := r.length
      exact wpAny_truthy_list pl.isList (by simp only [List.size_toArray]; omega) ⟨H, I.tok _, by rw [isEmpty_of r]; exact q⟩
    · subst e'
      obtain ⟨its, r, pl, hz⟩ := I.tuple hx
      have hlen := r.length
      exact truthy_tuple pl (by simp only [List.size_toArray]; omega) ⟨H, I.tok _, by rw [isEmpty_of r]; exact q⟩
    · subst e'
      obtain ⟨hz, hS, vs, r, m⟩ : kvs.length ≤ sizeLine ∧ (p == sysModules) = false ∧ ∃ vs, KV kvs vs ∧ s.heap.DictOf (mixKind X.prog X.w) p vs := I.hok p _ hx
      have hlen : kvs.length = vs.length := Paired.length r
      exact wpAny_truthy_dict hS m (by omega) ⟨H, I.tok _, by rw [isEmpty_kv r]; exact q⟩
  | _ => exact (show False from e).elim
theorem pt_truth (ha : PE X a ta) (he : ∀ whole, isTrue a X.env whole = (do let v ← whole; standAt a.pos; holding [v] (truthy v))) :
    PT X a (fun σ H Q => ta σ H fun x H' => ∃ k, TruV X.K x H' k ∧ Q k H') := by
  intro pins s σ H Q I h
  exact isTrue_plain (thn (ha pins s σ H _ I h) fun v s1 ⟨x, H1, I1, r1, q1⟩ => tru_ok pins s1 σ H1 x v Q I1 r1 q1) (he _)
theorem op_add_str : OpR X (binaryOp .Add) (fun x y H Q => ∃ i j, x = .str i ∧ y = .str j ∧ i.length + j.length ≤ sizeLine ∧ Q (.str (i ++ j)) H) := by
  intro pins s σ H x y v u Q I rx ry h
  obtain ⟨i, j, rfl, rfl, hz, q⟩ := h
  obtain ⟨t, rfl⟩ := rx
  obtain ⟨t', rfl⟩ := ry
  exact add_str (fun t' tk => ⟨.str (i ++ j), H, I.tok _, ⟨_, rfl⟩, q⟩) hz
theorem vals1 {x : V} {us : List Value} (r : Vals [x] us) : ∃ u, us = [u] ∧ RelV x u := by
  cases r with
  | cons r1 r2 => cases r2; exact ⟨_, rfl, r1⟩
theorem vals2 {x y : V} {us : List Value} (r : Vals [x, y] us) : ∃ u w', us = [u, w'] ∧ RelV x u ∧ RelV y w' := by
  cases r with
  | cons r1 r2 =>
    cases r2 with
    | cons r3 r4 => cases r4; exact ⟨_, _, rfl, r1, r3⟩
theorem call_str_int : CallR X (.type "str") (fun xs H Q => ∃ i, xs = [.int i] ∧ i.natAbs.log2 < 1920 ∧ Q (.str (toString i)) H) := by
  intro pins s σ H xs us Q I r h
  obtain ⟨i, rfl, hz, q⟩ := h
  obtain ⟨u, rfl, t, rfl⟩ := vals1 r
  exact PySem.P.str_of_int hz ⟨.str _, H, I.tok _, ⟨_, rfl⟩, q⟩
end
end L2
namespace L2
open PySem PySem.Spec PyProof.Rows
structure ObjM (h : Heap) (x dx C : Addr) (mA : Str → Option Value) : Prop where
  obj : h.get? x = some (PySem.W.instObj C dx)
  ns : h.Ns1 dx mA
  ne : dx ≠ x
theorem lookIn_ns {h : Heap} {dx : Addr} {mA : Str → Option Value} (n : h.Ns1 dx mA) : ∃ od, h.get? dx = some od ∧ ∀ name, PySem.W.lookIn name od = some (mA name) := by
  obtain ⟨o, es, ep, ho, hd, hk, _, hm⟩ := n
  refine ⟨o, ho, fun name => ?_⟩
  have e := hm name
  unfold nsFind findBy at e
  rw [← Array.find?_toList] at e
  unfold PySem.W.lookIn
  rw [hd]
  dsimp only
  split
  · rename_i y q
    rw [q] at e
    exact congrArg some e
  · rename_i q
    rw [q] at e
    have a : es.toList.any (·.refKey) = false := by
      rw [List.any_eq_false]
      intro y hy
      obtain ⟨z, t, hkey⟩ := hk y (Array.mem_toList_iff.mp hy)
      simp [DictEntry.refKey, hkey]
    have a' : ¬ es.toList.any (·.refKey) = true := by rw [a]; exact Bool.false_ne_true
    rw [if_neg a']
    exact congrArg some e
theorem ObjM.look {h : Heap} {x dx C : Addr} {mA : Str → Option Value} (I : ObjM h x dx C mA) : ∃ od, PySem.W.InstAt h x (PySem.W.instObj C dx) C (some od) ∧ ∀ name, PySem.W.lookIn name od = some (mA name) :=
  let ⟨od, ho, hl⟩ := lookIn_ns I.ns
  ⟨od, ⟨I.obj, rfl, rfl, ho⟩, hl⟩
section
variable {prog : Program} {w : World} {A : Around} {E : Value → Shared → Prop} {s : Shared} {K : PySem.W.Frag} {x dx C f : Addr} {mA : Str → Option Value} {name : Str} {v : Value}
theorem make_map0 {R : Result → Shared → Prop} (X : K.In s.heap) (hm : PySem.W.makesIn K C = true)
    (hi : PySem.W.findIn K (.ref C) "__init__" = some (some (.builtin "object.__init__")))
    (hb : ∀ self, PySem.W.Looks (model prog w) s.heap (bindSpecial (.builtin "object.__init__") self) (.builtin "object.__init__", [self]))
    (h : codeAny (model prog w) (A.under (.builtin "type.__call__" ⟨[.ref C], []⟩)) (.call (.builtin "object.__init__") ⟨[.ref (s.heap.objs.size + 1)], []⟩) (PySem.W.InitBack (s.heap.objs.size + 1) R)
      { s with heap := (s.heap.push PySem.W.emptyDict).push (PySem.W.instObj C s.heap.objs.size) }) :
    codeAny (model prog w) A (.call (.ref C) ⟨[], []⟩) R s := by
  obtain ⟨hh, g, d, t, os⟩ := s
  exact PySem.W.make_core (PySem.W.makes_of X hm) (PySem.W.looks_findIn X hi) hb (.inr ⟨rfl, rfl⟩) h
end
theorem RelO.some_of {v : V} {o : Option Value} (r : RelO (some v) o) : ∃ u, o = some u ∧ RelV v u := by
  cases o with
  | none => exact (show False from r).elim
  | some u => exact ⟨u, rfl, r⟩
theorem handed_of {v : V} {u : Value} (r : RelV v u) : PySem.W.handedIn u = true := by
  cases v with
  | non => cases (show u = Value.none from r); rfl
  | bl b => cases (show u = Value.bool b from r); rfl
  | int i => obtain ⟨t, e⟩ := (show ∃ t, u = Value.int i t from r); cases e; rfl
  | str x => obtain ⟨t, e⟩ := (show ∃ t, u = Value.str x t from r); cases e; rfl
  | byt b => obtain ⟨t, e⟩ := (show ∃ t, u = Value.bytes b t from r); cases e; rfl
  | flt b => obtain ⟨t, e⟩ := (show ∃ t, u = Value.float b t from r); cases e; rfl
  | ref a => cases (show u = Value.ref a from r); rfl
  | ty n => cases (show u = Value.type n from r); rfl
section
variable {P : Program} {w : World} {H H' : Hp} {h h' : Heap} {a C dx : Addr} {fs fs' : List (Str × V)}
theorem ins_get (hok : HOk P w H h) (e : H a = some (.ins C dx fs)) : ∃ mA, ObjM h a dx C mA ∧ (∀ f, RelO (fs.lookup f) (mA f)) ∧ PySem.Within mA (fs.map (·.1)) ∧ fs.length ≤ 1000 ∧ H dx = some (.own a) := by
  obtain ⟨d, z, ne, ob, mA, n, r, q⟩ := (show ObjOk P w H h a (.ins C dx fs) from hok a _ e)
  exact ⟨mA, ⟨ob, n, ne⟩, r, q, z, d⟩
end
structure Cls (K : PySem.W.Frag) (C : Addr) : Prop where
  pg : PySem.W.plainGet K C Str.empty = true
  hd : PySem.W.hasDictIn K C = true
  po : PySem.W.plainOver K C = true
  sa : PySem.W.findIn K (.ref C) "__setattr__" = some (some (.builtin "object.__setattr__"))
theorem Cls.get {K : PySem.W.Frag} {C : Addr} (c : Cls K C) (f : Str) : PySem.W.plainGet K C f = true := c.pg
structure Con (K : PySem.W.Frag) (C : Addr) (f : Str) (v : V) (u : Value) : Prop where
  at_ : PySem.W.findIn K (.ref C) f = some (some u)
  rel : RelV v u
  get : PySem.W.specialIn K u "__get__" = some none
  cp : PySem.W.copiedNames.contains f = false
structure Meth (K : PySem.W.Frag) (C : Addr) (m : Str) (f : Addr) : Prop where
  at_ : PySem.W.findIn K (.ref C) m = some (some (.ref f))
  fn : PySem.W.isFn K (.ref f) = true
  kp : PySem.W.keepIn K (.ref f) = true
section
variable {X : Cx} {pins : List (Addr × Obj)} {σ : St} {H : Hp} {s : Shared} {a C dx : Addr} {fs : List (Str × V)} {f : Str} {v : V} {A : Around} {E : Value → Shared → Prop}
theorem Inv.made (I : Inv X pins σ H s) : Inv X pins σ (upd (upd H s.heap.objs.size (.own (s.heap.objs.size + 1))) (s.heap.objs.size + 1) (.ins C s.heap.objs.size []))
    { s with heap := (s.heap.push PySem.W.emptyDict).push (PySem.W.instObj C s.heap.objs.size) } := by
  have e1 : (s.heap.push PySem.W.emptyDict).get? s.heap.objs.size = some PySem.W.emptyDict := Heap.get?_push_size s.heap rfl
  have e2 : ((s.heap.push PySem.W.emptyDict).push (PySem.W.instObj C s.heap.objs.size)).get? (s.heap.objs.size + 1) = some (PySem.W.instObj C s.heap.objs.size) := by
    have := Heap.get?_push_size (s.heap.push PySem.W.emptyDict) (o := PySem.W.instObj C s.heap.objs.size) rfl
    rwa [Heap.size_push] at this
  have e3 : (s.heap.push PySem.W.emptyDict).Ns s.heap.objs.size (fun _ => none) := ⟨PySem.W.emptyDict, #[], _, e1, rfl, (fun e he => absurd he (by simp)), fun _ => rfl⟩
  have I1 := I.laid (a := s.heap.objs.size) (o := .own (s.heap.objs.size + 1)) (h' := s.heap.push PySem.W.emptyDict) (t' := s.toks) (fun b u q => Heap.get?_push_of_some _ q) (Nat.le_refl _) ⟨_, e1⟩
  refine I1.laid (a := s.heap.objs.size + 1) (o := .ins C s.heap.objs.size []) (t' := s.toks) (fun b u q => Heap.get?_push_of_some _ q) (Nat.le_of_eq (Heap.size_push _ _)) ?_
  have ne : s.heap.objs.size ≠ s.heap.objs.size + 1 := Nat.ne_of_lt (Nat.lt_succ_self _)
  refine ⟨by rw [upd_ne ne, upd_same], Nat.zero_le _, ne, e2, fun _ => none, (Heap.Ns1.of_empty e3).at fun o q => Heap.get?_push_of_some _ q, fun _ => True.intro, fun y hy => absurd rfl hy⟩
theorem attr_of {prog : Program} {w : World} {env : Env} {e : Expr} {f : Str} {pos : Pos} {s : Shared} {Q : Value → Shared → Prop} (hb : attributeBase e f env (eval e env) = eval e env)
    (h : wpAny (model prog w) A (eval e env) (fun o s₁ => wpAny (model prog w) A (getAttr o f true) Q E s₁) E s) : wpAny (model prog w) A (eval (.Attribute e f pos) env) Q E s :=
  Attribute_any_ h (by rw [arm_eval_Attribute, hb])
end
section
variable {X : Cx} {pins : List (Addr × Obj)} {σ : St} {H : Hp} {s : Shared} {A : Around} {E : Value → Shared → Prop} {Q : Value → Shared → Prop} {c : Value} {b : Bool}
inductive TyOf (K : PySem.W.Frag) (H : Hp) : V → Value → Prop where
  | non : TyOf K H .non (.type "NoneType")
  | bl (x : Bool) : TyOf K H (.bl x) (.type "bool")
  | int (i : Int) : TyOf K H (.int i) (.type "int")
  | str (x : Str) : TyOf K H (.str x) (.type "str")
  | flt (x : UInt64) : TyOf K H (.flt x) (.type "float")
  | lst {a : Addr} {xs : List V} (e : H a = some (.lst xs)) : TyOf K H (.ref a) (.type "list")
  | frz {a : Addr} {o : Obj} {xs : List V} (e : H a = some (.frz o (.lst xs))) : TyOf K H (.ref a) (.type "list")
  | tup {a : Addr} {xs : List V} (e : H a = some (.tup xs)) : TyOf K H (.ref a) (.type "tuple")
  | dK {a : Addr} {kvs : List (Key × V)} (e : H a = some (.dK kvs)) : TyOf K H (.ref a) (.type "dict")
  | dT {a : Addr} {kvs : List (List Key × V)} (e : H a = some (.dT kvs)) : TyOf K H (.ref a) (.type "dict")
  | ins {a C dx : Addr} {fs : List (Str × V)} (e : H a = some (.ins C dx fs)) (cl : Cls K C) (ha : PySem.W.findIn K (.ref C) "__class__" = some (some (.builtin "object.__class__")))
      (hn : PySem.W.specialIn K (.builtin "object.__class__") "__get__" = some (some (.builtin "getset_descriptor.__get__"))) (htk : PySem.W.takesIn K (.builtin "object.__class__") = some true)
      (hm : PySem.W.mroIn K C (.type "object") = some true) : TyOf K H (.ref a) (.ref C)
theorem isinst_ok {x : V} {u t : Value} (I : Inv X pins σ H s) (rx : RelV x u) (ty : TyOf X.K H x t) (e : PySem.W.kitOne X.K t c = some b) (h : ∀ tk, Q (.bool b) { s with toks := tk }) :
    wpAny (model X.prog X.w) A (call (.builtin "isinstance") [u, c]) Q E s := by
  cases ty with
  | non => cases (show u = Value.none from rx); exact PySem.W.kia_one PySem.W.kitx_none I.kIn True.intro e (fun z => nomatch z) h
  | bl y => cases (show u = Value.bool y from rx); exact PySem.W.kia_one PySem.W.kitx_bool I.kIn True.intro e (fun z => nomatch z) h
  | int i => obtain ⟨t, q⟩ := (show ∃ t, u = Value.int i t from rx); cases q; exact PySem.W.kia_one PySem.W.kitx_int I.kIn True.intro e (fun z => nomatch z) h
  | str y => obtain ⟨t, q⟩ := (show ∃ t, u = Value.str y t from rx); cases q; exact PySem.W.kia_one PySem.W.kitx_str I.kIn True.intro e (fun z => nomatch z) h
  | flt y => obtain ⟨t, q⟩ := (show ∃ t, u = Value.float y t from rx); cases q; exact PySem.W.kia_one PySem.W.kitx_float I.kIn True.intro e (fun z => nomatch z) h
  | @lst a xs ea =>
    cases (show u = Value.ref a from rx)
    obtain ⟨_, _, n, _, h1⟩ := (show ObjOk X.prog X.w H s.heap a (.lst xs) from I.hok a _ ea)
    exact PySem.W.kia_one PySem.W.kitx_list I.kIn ⟨_, h1, rfl⟩ e (fun z => nomatch z) h
  | @frz a ob xs ea =>
    cases (show u = Value.ref a from rx)
    obtain ⟨_, _, _, n, _, h1⟩ := (show ObjOk X.prog X.w H s.heap a (.frz ob (.lst xs)) from I.hok a _ ea)
    exact PySem.W.kia_one PySem.W.kitx_list I.kIn ⟨_, h1, rfl⟩ e (fun z => nomatch z) h
  | @tup a xs ea =>
    cases (show u = Value.ref a from rx)
    obtain ⟨_, _, _, p⟩ := (show ObjOk X.prog X.w H s.heap a (.tup xs) from I.hok a _ ea)
    obtain ⟨o, h1, h2, _⟩ := p
    exact PySem.W.kia_one PySem.W.kitx_tuple I.kIn ⟨o, h1, h2⟩ e (fun z => nomatch z) h
  | @dK a kvs ea =>
    cases (show u = Value.ref a from rx)
    obtain ⟨_, _, vs, _, p⟩ := (show ObjOk X.prog X.w H s.heap a (.dK kvs) from I.hok a _ ea)
    obtain ⟨o, es, ep, h1, h2, _⟩ := p
    exact PySem.W.kia_one PySem.W.kitx_dict I.kIn ⟨o, h1, h2.1⟩ e (fun z => nomatch z) h
  | @dT a kvs ea =>
    cases (show u = Value.ref a from rx)
    obtain ⟨_, _, xs, _, o, es, ep, h1, h2, _⟩ := (show ObjOk X.prog X.w H s.heap a (.dT kvs) from I.hok a _ ea)
    exact PySem.W.kia_one PySem.W.kitx_dict I.kIn ⟨o, h1, h2.1⟩ e (fun z => nomatch z) h
  | @ins a C dx fs ea cl ha hn htk hm =>
    cases (show u = Value.ref a from rx)
    obtain ⟨mA, O, _⟩ := ins_get I.hok ea
    obtain ⟨od, J, _⟩ := O.look
    exact PySem.W.kia_one (PySem.W.kitx_own (cl.get _) cl.hd ha hn htk hm) I.kIn J e (fun z => nomatch z) h
end
end L2
namespace L2
open PySem PySem.Spec PyProof.Rows
structure Room (k : Nat) (A : Around) : Prop where
  hd : A.handled = none
  dp : A.depth + 3 * k + 5 < recursionLimit
  un : A.units + 16 * k + 200 < cLine
theorem Room.mono {j k : Nat} {A : Around} (r : Room k A) (h : j ≤ k) : Room j A := ⟨r.hd, by have := r.dp; omega, by have := r.un; omega⟩
theorem Room.deeper {k : Nat} {A : Around} (r : Room (k + 1) A) (env : Env) : Room k (A.deeper env) :=
  ⟨r.hd, by have := r.dp; show A.depth + 1 + 3 * k + 5 < _; omega, by have := r.un; show A.units + 3 + 16 * k + 200 < _; omega⟩
theorem make_depth {A : Around} {C : Addr} {us : List Value} {kw : List (Str × Value)} : (A.under (.builtin "type.__call__" ⟨.ref C :: us, kw⟩)).depth = A.depth + 1 := by
  first | rfl | simp [Around.under, Code.weight, Code.isCreation, Code.isGuard, Code.isCaller, Code.frames, Code.isFrame, guardIds]
theorem make_units {A : Around} {C : Addr} {us : List Value} {kw : List (Str × Value)} : (A.under (.builtin "type.__call__" ⟨.ref C :: us, kw⟩)).units = A.units + 1 := by
  first | rfl | simp [Around.under, Code.cUnits, Code.frames, Code.isFrame]
theorem Room.make {k : Nat} {A : Around} (r : Room (k + 1) A) (C : Addr) (us : List Value) (kw : List (Str × Value)) : Room k (A.under (.builtin "type.__call__" ⟨.ref C :: us, kw⟩)) :=
  ⟨r.hd, by have := r.dp; rw [make_depth]; omega, by have := r.un; rw [make_units]; omega⟩
theorem Room.depth {k : Nat} {A : Around} (r : Room k A) : A.depth < recursionLimit := by have := r.dp; omega
theorem Room.units {k : Nat} {A : Around} (r : Room k A) : A.units + 64 < cLine := by have := r.un; omega
def tNil : TA := fun _ H Q => Q [] H
def tCons (ta : TE) (tr : TA) : TA := fun σ H Q => ta σ H fun x H1 => tr σ H1 fun xs H2 => Q (x :: xs) H2
section
variable {X : Cx} {e : Expr} {es : List Expr} {te : TE} {t : TA} {pos : Pos}
theorem pa_nil : PA X [] tNil := fun _ _ _ _ H Q I h => Calls.spliced_nil ⟨[], H, I, .nil, h⟩
theorem pa_cons (ha : PE X e te) (hr : PA X es t) (hs : starEach (e :: es) X.env = (false, eval e X.env) :: starEach es X.env := by rfl) : PA X (e :: es) (tCons te t) := by
  intro pos pins s σ H Q I h
  rw [hs]
  show wpAny _ _ (spliced ((false, eval e X.env) :: backTo pos (starEach es X.env))) _ _ s
  refine Calls.spliced_cons (thn (ha pins s σ H _ I h) fun u s1 ⟨x, H1, I1, r1, q1⟩ => ?_)
  exact thn (hr pos pins s1 σ H1 _ I1 q1) fun us s2 ⟨xs, H2, I2, r2, q2⟩ => ⟨x :: xs, H2, I2, .cons r1 r2, q2⟩
def tLst (t : TA) : TE := fun σ H Q => t σ H fun xs H1 => xs.length ≤ sizeLine ∧ ∀ p, H1 p = none → Q (.ref p) (upd H1 p (.lst xs))
theorem pe_lst (h : PA X es t) : PE X (.List es pos) (tLst t) := by
  intro pins s σ H Q I hq
  refine wpAny_List_spliced (thn (h pos pins s σ H _ I hq) fun us s1 ⟨xs, H1, I1, r, z, q⟩ => ⟨by rw [← r.length]; exact z, ?_⟩)
  have hf : H1 s1.heap.objs.size = none := I1.hok.fresh (Nat.le_refl _)
  refine ⟨.ref s1.heap.objs.size, upd H1 s1.heap.objs.size (.lst xs), I1.laid (t' := s1.toks) (fun b u e => Heap.get?_push_of_some _ e) (Nat.le_refl _) ?_, rfl, q _ hf⟩
  exact ⟨z, us, 0, r, Heap.get?_push_size _ rfl⟩
end
abbrev Sp := List V → Hp → VK → XK → Prop
abbrev CXT := List Env → Hp → Shared → XK → Value → Shared → Prop
structure Env0 (P : Program) (w : World) (K : PySem.W.Frag) (mg : Str → Option Value) (base : Heap) (A : Around) (outer : List Env) (s : Shared) (H : Hp) : Prop where
  frames : A.frames = some outer
  mod : Mod K mg base
  bs : ∀ b o, base.get? b = some o → s.heap.get? b = some o ∧ H b = none
  bsz : base.objs.size ≤ s.heap.objs.size
  funs : s.heap.FunFrames base outer
  frf : ∀ b ∈ frs outer, H b = none
  hok : HOk P w H s.heap
  bare : AllBare s.gens
def CE (outer : List Env) (P : Program) (w : World) (H : Hp) (s : Shared) (Q : VK) (u : Value) (s' : Shared) : Prop :=
  ∃ v H', s'.os = s.os ∧ AllBare s'.gens ∧ Un (frs outer) [] H H' s.heap s'.heap ∧ HOk P w H' s'.heap ∧ RelV v u ∧ Q v H'
def CR (CX : CXT) (outer : List Env) (P : Program) (w : World) (H : Hp) (s : Shared) (Q : VK) (E : XK) (r : Result) (s' : Shared) : Prop :=
  match r with
  | .ok (.ret u) => CE outer P w H s Q u s'
  | .ok _ => False
  | .error e => CX outer H s E e s'
structure FnOk (P : Program) (w : World) (K : PySem.W.Frag) (mg : Str → Option Value) (base : Heap) (CX : CXT) (k : Nat) (f : Addr) (fd : FuncData) (ps : List Str) (sp : Sp) : Prop where
  len : ∀ vs H Q E, sp vs H Q E → vs.length = ps.length
  run : ∀ (A : Around) (outer : List Env) (s : Shared) (H : Hp) (args : Args) (us : List Value) (vs : List V) (Q : VK) (E : XK), Room k A → Env0 P w K mg base A outer s H → BindsTo s fd args (ps.zip us) → Vals vs us → sp vs H Q E →
    codeAny (model P w) A (.call (.ref f) args) (CR CX outer P w H s Q E) s
theorem FnOk.mono {P : Program} {w : World} {K : PySem.W.Frag} {mg : Str → Option Value} {base : Heap} {CX : CXT} {j k : Nat} {f : Addr} {fd : FuncData} {ps : List Str} {sp : Sp} (F : FnOk P w K mg base CX j f fd ps sp) (h : j ≤ k) :
    FnOk P w K mg base CX k f fd ps sp := ⟨F.len, fun A outer s H args us vs Q E hr => F.run A outer s H args us vs Q E (hr.mono h)⟩
theorem Env0.make {P : Program} {w : World} {K : PySem.W.Frag} {mg : Str → Option Value} {base : Heap} {A : Around} {outer : List Env} {s : Shared} {H : Hp} (e : Env0 P w K mg base A outer s H) (C : Addr) (us : List Value) (kw : List (Str × Value)) :
    Env0 P w K mg base (A.under (.builtin "type.__call__" ⟨.ref C :: us, kw⟩)) outer s H := ⟨by first | exact e.frames | (simpa [Around.under, Code.envs, Code.isFrame, pushEnvs] using e.frames), e.mod, e.bs, e.bsz, e.funs, e.frf, e.hok, e.bare⟩
section
variable {X : Cx} {pins : List (Addr × Obj)} {σ : St} {H : Hp} {s s' : Shared}
theorem Inv.env0 (I : Inv X pins σ H s) : Env0 X.prog X.w X.K X.mg X.base X.A X.stack s H :=
  ⟨I.ok.frames, I.ok.mod, I.bs, Nat.le_trans I.ok.bsz I.sz, I.stack, I.stkFree, I.hok, I.bare⟩
theorem Inv.after {Q : VK} {u : Value} (I : Inv X pins σ H s) (h : CE X.stack X.prog X.w H s Q u s') : EP X pins σ Q u s' := by
  obtain ⟨v, H', os, bare, un, hok, r, q⟩ := h
  obtain ⟨hh, g, d, t, os'⟩ := s'
  obtain rfl : os' = s.os := os
  exact ⟨v, H', I.call (h' := hh) (g' := g) (d' := d) (t' := t) (ch := []) un hok bare (fun b z => absurd z (by simp)), r, q⟩
end
def tCall (sp : Sp) (dvs : List V) (E : XK) (t : TA) : TE := fun σ H Q => t σ H fun vs H1 => sp (vs ++ dvs) H1 Q E
def Binds (K : PySem.W.Frag) (fd : FuncData) (ps : List Str) (ds : List Value) : Prop :=
  ∀ (s : Shared) (us : List Value), K.In s.heap → (us ++ ds).length = ps.length → BindsTo s fd ⟨us, []⟩ (ps.zip (us ++ ds))
theorem Binds.all {K : PySem.W.Frag} {fd : FuncData} {ps : List Str} (h : ∀ us : List Value, us.length = ps.length → bindArgs fd ⟨us, []⟩ = pure (ps.zip us)) : Binds K fd ps [] := fun s us _ hl => by
  rw [List.append_nil] at hl ⊢
  exact .of_eq (h us hl)
def Passes (CX : CXT) (X : Cx) (E : XK) : Prop := ∀ (pins : List (Addr × Obj)) (σ : St) (H : Hp) (s : Shared) (e : Value) (s' : Shared), Inv X pins σ H s → CX X.stack H s E e s' → X.xe e s'
section
variable {X : Cx} {CX : CXT} {k : Nat} {f C : Addr} {fd : FuncData} {ps : List Str} {sp : Sp} {dvs : List V} {ds : List Value} {E : XK} {x m : Str} {p pos apos : Pos} {e o : Expr} {es : List Expr} {ta : TE} {t : TA}
theorem run_fn {pins : List (Addr × Obj)} {σ : St} {H : Hp} {s : Shared} {Q : VK} {us : List Value} {vs : List V} (F : FnOk X.prog X.w X.K X.mg X.base CX k f fd ps sp) (hr : Room k X.A) (hb : Binds X.K fd ps ds) (hd : Vals dvs ds) (hx : Passes CX X E)
    (I : Inv X pins σ H s) (r : Vals vs us) (h : sp (vs ++ dvs) H Q E) : wpAny (model X.prog X.w) X.A (call (.ref f) us) (EP X pins σ Q) X.xe s := by
  have r2 : Vals (vs ++ dvs) (us ++ ds) := r.append hd
  have hl : (us ++ ds).length = ps.length := by rw [← r2.length]; exact F.len _ _ _ _ h
  refine wpAny_call (codeAny_mono (F.run X.A X.stack s H ⟨us, []⟩ (us ++ ds) (vs ++ dvs) Q E hr I.env0 (hb s us I.kIn hl) r2 h) fun r s' hq => ?_)
  cases r with
  | error e => exact hx pins σ H s e s' I hq
  | ok fl =>
    cases fl with
    | ret u => exact I.after hq
    | next => exact False.elim hq
    | brk => exact False.elim hq
    | cont => exact False.elim hq
theorem pe_call (F : FnOk X.prog X.w X.K X.mg X.base CX k f fd ps sp) (hr : Room k X.A) (hg : Gl X x) (hm : X.mg x = some (.ref f)) (hk : PySem.W.keepIn X.K (.ref f) = true) (hb : Binds X.K fd ps ds) (hd : Vals dvs ds) (hx : Passes CX X E)
    (ha : PA X (e :: es) t) (hdb : (x == ("__debug__" : Str)) = false := by decide) (he : starEach (e :: es) X.env = (false, eval e X.env) :: starEach es X.env := by rfl) (hpl : (backTo pos (starEach es X.env)).any (·.1) = false := by rfl) :
    PE X (.Call (.Name x p) (e :: es) [] pos) (tCall sp dvs E t) := by
  intro pins s σ H Q I h
  refine wpAny_Call_Name_kw (ld_glob I hg hm ?_ hdb)
  refine PySem.W.callWith_K (h₀ := X.base) I.ok.mod.kin hk (thn (ha pos pins s σ H _ I h) fun us s1 ⟨vs, H1, I1, r, q⟩ => ⟨I1.kIn, ?_⟩) he hpl
  exact run_fn F hr hb hd hx I1 r q
theorem pe_call0 (F : FnOk X.prog X.w X.K X.mg X.base CX k f fd ps sp) (hr : Room k X.A) (hg : Gl X x) (hm : X.mg x = some (.ref f)) (hk : PySem.W.keepIn X.K (.ref f) = true) (hb : Binds X.K fd ps ds) (hd : Vals dvs ds) (hx : Passes CX X E)
    (hdb : (x == ("__debug__" : Str)) = false := by decide) : PE X (.Call (.Name x p) [] [] pos) (tCall sp dvs E tNil) := by
  intro pins s σ H Q I h
  refine wpAny_Call_Name_kw (ld_glob I hg hm ?_ hdb)
  exact PySem.W.callWith_K0 I.kIn hk (run_fn (us := []) F hr hb hd hx I .nil h)
structure Mk (K : PySem.W.Frag) (C f : Addr) : Prop where
  makes : PySem.W.makesIn K C = true
  init : PySem.W.findIn K (.ref C) "__init__" = some (some (.ref f))
  fn : PySem.W.isFn K (.ref f) = true
  kp : PySem.W.keepIn K (.ref C) = true
end
section
variable {X : Cx} {CX : CXT} {k : Nat} {f C : Addr} {fd : FuncData} {ps ks : List Str} {sp : Sp} {E : XK} {x m : Str} {p pos apos kpos : Pos} {e o : Expr} {es : List Expr} {kws : List Keyword} {te ta : TE} {t tk : TA} {nm : Option Str}
structure KBinds (K : PySem.W.Frag) (fd : FuncData) (ps ks : List Str) (g : List Value → List Value → List Value) (gV : List V → List V → List V) : Prop where
  to : ∀ (s : Shared) (us ws : List Value), K.In s.heap → (g us ws).length = ps.length → BindsTo s fd ⟨us, ks.zip ws⟩ (ps.zip (g us ws))
  rel : ∀ {vs : List V} {us : List Value} {zs : List V} {ws : List Value}, Vals vs us → Vals zs ws → Vals (gV vs zs) (g us ws)
variable {g : List Value → List Value → List Value} {gV : List V → List V → List V}
end
structure FnScope (N P : List Str) (sc : Scope) : Prop where
  kind : sc.kind = .function
  co : sc.isCoroutine = false
  gen : sc.isGenerator = false
  nd : N.Nodup
  pre : N.take P.length = P
  par : ∀ x ∈ P, sc.names.lookup x = some .local ∨ sc.names.lookup x = some .cell
  nofree : ∀ y ∈ sc.names, y.2 ≠ .free
theorem bindL_out {kindOf : Str → Option NameKind} {x : Str} : ∀ {binds : List (Str × Value)} {m : Str → Option Value}, (∀ v, (x, v) ∉ binds) → bindL kindOf binds m x = m x
  | [], _, _ => rfl
  | (n, v) :: r, m, h => by
    unfold bindL
    rw [bindL_out fun w hw => h w (List.mem_cons_of_mem _ hw)]
    split
    · have : x ≠ n := by rintro rfl; exact h v List.mem_cons_self
      simp [this]
    · rfl
theorem bindC_out {kindOf : Str → Option NameKind} {x : Str} : ∀ {binds : List (Str × Value)} {m : Str → Option Value}, (∀ v, (x, v) ∉ binds) → bindC kindOf binds m x = m x
  | [], _, _ => rfl
  | (n, v) :: r, m, h => by
    unfold bindC
    rw [bindC_out fun w hw => h w (List.mem_cons_of_mem _ hw)]
    split
    · rfl
    · have : x ≠ n := by rintro rfl; exact h v List.mem_cons_self
      simp [this]
theorem bindL_get {kindOf : Str → Option NameKind} {x : Str} {v : Value} : ∀ {P : List Str} {vs : List Value} {i : Nat} {m : Str → Option Value}, P.Nodup → P[i]? = some x → vs[i]? = some v → kindOf x = some .local →
    bindL kindOf (P.zip vs) m x = some v
  | [], _, _, _, _, h, _, _ => by simp at h
  | _ :: _, [], _, _, _, _, h, _ => by simp at h
  | p :: P, w :: vs, 0, m, nd, h1, h2, hk => by
    simp at h1 h2; subst h1; subst h2
    show bindL kindOf ((p, w) :: P.zip vs) m p = _
    unfold bindL
    rw [bindL_out fun v hv => (List.nodup_cons.mp nd).1 (List.of_mem_zip hv).1, if_pos hk]
    simp
  | p :: P, w :: vs, i + 1, m, nd, h1, h2, hk => by
    show bindL kindOf ((p, w) :: P.zip vs) m x = _
    unfold bindL
    exact bindL_get (i := i) (List.nodup_cons.mp nd).2 (by simpa using h1) (by simpa using h2) hk
theorem bindC_get {kindOf : Str → Option NameKind} {x : Str} {v : Value} : ∀ {P : List Str} {vs : List Value} {i : Nat} {m : Str → Option Value}, P.Nodup → P[i]? = some x → vs[i]? = some v → kindOf x ≠ some .local →
    bindC kindOf (P.zip vs) m x = some v
  | [], _, _, _, _, h, _, _ => by simp at h
  | _ :: _, [], _, _, _, _, h, _ => by simp at h
  | p :: P, w :: vs, 0, m, nd, h1, h2, hk => by
    simp at h1 h2; subst h1; subst h2
    show bindC kindOf ((p, w) :: P.zip vs) m p = _
    unfold bindC
    rw [bindC_out fun v hv => (List.nodup_cons.mp nd).1 (List.of_mem_zip hv).1, if_neg hk]
    simp
  | p :: P, w :: vs, i + 1, m, nd, h1, h2, hk => by
    show bindC kindOf ((p, w) :: P.zip vs) m x = _
    unfold bindC
    exact bindC_get (i := i) (List.nodup_cons.mp nd).2 (by simpa using h1) (by simpa using h2) hk
def start (N : List Str) (vs : List V) : St := vs.map some ++ List.replicate (N.length - vs.length) none
def cxOf (CX : CXT) (P : Program) (w : World) (K : PySem.W.Frag) (mg : Str → Option Value) (base : Heap) (N : List Str) (qual : Str) (scope : Scope) (f : Addr) (cd : Value) (A : Around) (outer : List Env) (s : Shared) (H : Hp) (E : XK) : Cx where
  prog := P
  w := w
  K := K
  mg := mg
  base := base
  A := A.deeper (envOfC qual scope s.heap.objs.size f cd)
  N := N
  s₀ := s
  H₀ := H
  env := envOfC qual scope s.heap.objs.size f cd
  outer := outer
  stack := envOfC qual scope s.heap.objs.size f cd :: outer
  ex := []
  calm := true
  fn := fun _ => true
  pn := []
  xe := fun e s' => wpAny (model P w) (A.deeper (envOfC qual scope s.heap.objs.size f cd)) (leaving (envOfC qual scope s.heap.objs.size f cd) e) (fun _ s'' => CX outer H s E e s'') (fun e' s'' => CX outer H s E e' s'') s'
theorem cell_has {sc : Scope} {n : Nat} {x : Str} (h : sc.names.lookup x = some .cell) : ∃ c, (cellsFrom n sc.names []).lookup x = some c := by
  have q := PySem.W.cellsFrom_some sc.names n [] (.inl h)
  exact Option.isSome_iff_exists.mp q
theorem inv_start {CX : CXT} {P : Program} {w : World} {K : PySem.W.Frag} {mg : Str → Option Value} {base : Heap} {N ps : List Str} {qual : Str} {scope : Scope} {f : Addr} {cd : Value} {A : Around} {outer : List Env} {s s1 : Shared} {H : Hp} {E : XK} {us : List Value} {vs : List V}
    (S : FnScope N ps scope) (hd : A.handled = none) (e0 : Env0 P w K mg base A outer s H) (hl : vs.length = ps.length) (r : Vals vs us)
    (x : InCallC s s.heap.objs.size (bindL (envOfC qual scope s.heap.objs.size f cd).kindOf (ps.zip us) fun _ => none) (cellsFrom (s.heap.objs.size + 1) scope.names []) (bindC (envOfC qual scope s.heap.objs.size f cd).kindOf (ps.zip us) fun _ => none) s1) :
    Inv (cxOf CX P w K mg base N qual scope f cd A outer s H E) [] (start N vs) H s1 := by
  have hpl : ps.length ≤ N.length := by have := congrArg List.length S.pre; rw [List.length_take] at this; omega
  obtain ⟨h1, tk, rfl, hk⟩ := x.done
  have noA : ∀ b : Addr, b ∉ (cxOf CX P w K mg base N qual scope f cd A outer s H E).ex := fun b z => absurd (show b ∈ ([] : List Addr) from z) (by simp)
  refine ⟨⟨e0.mod, S.kind, rfl, rfl, Nat.le_refl _, fun y z c h1 h2 => ?_, fun y hy => ?_, fun y c _ h => ?_, fun _ => hd, Around.frames_deeper e0.frames, .inr ⟨rfl, rfl⟩, fun b z => absurd z (noA b), e0.bs, e0.bsz, fun b _ _ => noA b, fun b z => absurd z (noA b), e0.funs, e0.frf⟩,
    rfl, e0.bare, Un.kept hk, ⟨_, x.toInCall.ns, fun i y v h1 h2 h3 => ?_⟩, fun y c h => ⟨_, x.cell y c h⟩, e0.hok.fresh (Nat.le_refl _), fun y c h => ?_, fun p hp => absurd (show p ∈ ([] : List (Addr × Obj)) from hp) (by simp), e0.hok.kept hk, ?_⟩
  · exact name_of_addr x.apart (PySem.mem_of_lookup h1) (PySem.mem_of_lookup h2)
  · have hy : scope.names.lookup y = some .cell ∨ scope.names.lookup y = some .free := hy
    rcases hy with hy | hy
    · exact cell_has hy
    · exact absurd rfl (S.nofree _ (PySem.mem_of_lookup hy))
  · exact Nat.le_of_lt (x.above y c (PySem.mem_of_lookup h))
  · have hi : i < vs.length := by
      unfold start at h2
      by_cases hi : i < vs.length
      · exact hi
      · rw [List.getElem?_append_right (by simpa using hi)] at h2
        rw [List.getElem?_replicate] at h2
        split at h2 <;> cases h2
    have ha : vs[i]? = some v := by
      unfold start at h2
      rw [List.getElem?_append_left (by simpa using hi), List.getElem?_map] at h2
      cases e : vs[i]? with
      | none => rw [e] at h2; cases h2
      | some a => rw [e] at h2; cases h2; rfl
    obtain ⟨u, hu, rv⟩ := r.get ha
    have hp : ps[i]? = some y := by
      rw [← S.pre, List.getElem?_take_of_lt (by omega)]; exact h1
    have ndP : ps.Nodup := by rw [← S.pre]; exact S.nd.sublist (List.take_sublist _ _)
    refine ⟨u, rv, ?_⟩
    rcases S.par y (List.mem_of_getElem? hp) with k | k
    · exact .inl ⟨k, bindL_get ndP hp hu k⟩
    · obtain ⟨c, e⟩ := cell_has (n := s.heap.objs.size + 1) k
      refine .inr ⟨.inl k, c, e, ?_⟩
      have q := x.cell y c e
      rw [bindC_get ndP hp hu (by show scope.names.lookup y ≠ _; rw [k]; decide)] at q
      exact q
  · exact e0.hok.fresh (Nat.le_of_lt (x.above y c (PySem.mem_of_lookup h)))
  · unfold start
    show _ = N.length
    rw [List.length_append, List.length_map, List.length_replicate]
    omega
theorem fn_of {CX : CXT} {P : Program} {w : World} {K : PySem.W.Frag} {mg : Str → Option Value} {base : Heap} {k : Nat} {f : Addr} {name qual : Str} {params : Arguments} {body : List Stmt} {scope : Scope} {dV kV doc pm cdv ct oc : Value} {an od : Option Addr}
    {osl : Array (Option Value)} {N ps : List Str} {sp : Sp} (lk : K.lookup f = some ⟨oc, od, .func (PySem.W.fnOf name qual params body scope dV kV doc pm an cdv ct), osl⟩) (hcd : PySem.W.codeIn K cdv qual = true) (S : FnScope N ps scope)
    (len : ∀ vs H Q E, sp vs H Q E → vs.length = ps.length)
    (hbody : ∀ (A : Around) (outer : List Env) (s : Shared) (H : Hp) (vs : List V) (Q : VK) (E : XK), Room k (A.deeper (envOfC qual scope s.heap.objs.size f cdv)) → sp vs H Q E →
      ∃ t, PSs (cxOf CX P w K mg base N qual scope f cdv A outer s H E) body t ∧ t { nx := fun _ H' => Q .non H', rt := Q } (start N vs) H) :
    FnOk P w K mg base CX (k + 1) f (PySem.W.fnOf name qual params body scope dV kV doc pm an cdv ct) ps sp := by
  refine ⟨len, fun A outer s H args us vs Q E hr e0 hb r hsp => ?_⟩
  have hl := len _ _ _ _ hsp
  have KX : K.In s.heap := e0.mod.kin.keeps fun b o e => (e0.bs b o e).1
  have lim : s.heap.NoLimit := e0.mod.nolimit.keeps fun b o e => (e0.bs b o e).1
  have hkind : ∀ y ∈ ps.zip us, scope.names.lookup y.1 = some .local ∨ (scope.names.lookup y.1 = some .cell ∧ ((cellsFrom (s.heap.objs.size + 1) scope.names []).lookup y.1).isSome = true) := fun ⟨n, v⟩ hy => by
    rcases S.par n (List.of_mem_zip hy).1 with q | q
    · exact .inl q
    · exact .inr ⟨q, PySem.W.cellsFrom_some _ _ _ (.inl q)⟩
  refine codeAny_call_function hr.depth (KX _ _ lk) rfl S.co S.gen rfl (PySem.W.codeRec_of KX hcd) (hb _ _ _ _ ?_)
  refine wpAny_newFunctionEnv_cells S.kind hkind fun env he s1 x => ?_
  subst he
  refine ⟨lim.keeps x.toInCall.keep, codeAny_func ?_⟩
  obtain ⟨t, ht, hq⟩ := hbody A outer s H vs Q E (hr.deeper _) hsp
  have I : Inv (cxOf CX P w K mg base N qual scope f cdv A outer s H E) [] (start N vs) H s1 := inv_start S hr.hd e0 hl r x
  refine wpAny_mono (ht [] s1 (start N vs) H _ I hq) (fun fl s' hs => ?_) fun e s' hs => hs
  have fin : ∀ {σ' : St} {H' : Hp} {v : V} {u : Value}, Inv (cxOf CX P w K mg base N qual scope f cdv A outer s H E) [] σ' H' s' → RelV v u → Q v H' → CE outer P w H s Q u s' :=
    fun {σ' H' v u} J rv q => ⟨v, H', J.os, J.bare, J.base, J.hok, rv, q⟩
  cases fl with
  | ret u =>
    obtain ⟨v, σ', H', J, rv, q⟩ := hs
    exact fin J rv q
  | next =>
    obtain ⟨σ', H', J, q⟩ := hs
    exact fin (v := V.non) (u := Value.none) J rfl q
  | brk =>
    obtain ⟨_, _, _, q⟩ := hs
    exact False.elim q
  | cont =>
    obtain ⟨_, _, _, q⟩ := hs
    exact False.elim q
end L2
namespace L2
open PySem PySem.Spec PyProof.Rows
section
variable {X : Cx} {x : Str} {p pos : Pos} {e : Expr} {es : List Expr} {t : TA} {id T : String} {r : List V → Hp → VK → Prop}
def tCB (r : List V → Hp → VK → Prop) (t : TA) : TE := fun σ H Q => t σ H fun vs H1 => r vs H1 Q
theorem pe_callB (hc : CallR X (.builtin id) r) (hg : Gl X x) (hm : X.mg x = none) (hv : bootBuiltins x = some (.builtin id)) (ha : PA X (e :: es) t) (hn : x ≠ "__name__" := by decide) (hdb : (x == ("__debug__" : Str)) = false := by decide)
    (he : starEach (e :: es) X.env = (false, eval e X.env) :: starEach es X.env := by rfl) (hpl : (backTo pos (starEach es X.env)).any (·.1) = false := by rfl) : PE X (.Call (.Name x p) (e :: es) [] pos) (tCB r t) := by
  intro pins s σ H Q I h
  refine wpAny_Call_Name_kw (ld_blt I hg hm hv ?_ hn hdb)
  exact PyProof.Rows.callWith_builtin1 (thn (ha pos pins s σ H _ I h) fun us s1 ⟨vs, H1, I1, r1, q1⟩ => hc pins s1 σ H1 vs us Q I1 r1 q1) he hpl
theorem pe_callTy (hc : CallR X (.type T) r) (hg : Gl X x) (hm : X.mg x = none) (hv : bootBuiltins x = some (.type T)) (ha : PA X (e :: es) t) (hn : x ≠ "__name__" := by decide) (hdb : (x == ("__debug__" : Str)) = false := by decide)
    (he : starEach (e :: es) X.env = (false, eval e X.env) :: starEach es X.env := by rfl) (hpl : (backTo pos (starEach es X.env)).any (·.1) = false := by rfl) : PE X (.Call (.Name x p) (e :: es) [] pos) (tCB r t) := by
  intro pins s σ H Q I h
  refine wpAny_Call_Name_kw (ld_blt I hg hm hv ?_ hn hdb)
  exact PyProof.Rows.callWith_type1 (thn (ha pos pins s σ H _ I h) fun us s1 ⟨vs, H1, I1, r1, q1⟩ => hc pins s1 σ H1 vs us Q I1 r1 q1) he hpl
end
end L2
namespace HT
open PySem PyProof.Rows
section
open PySem.SeqAt
open PySem.AutoSeq1 (wpAny_loadPart')
open PySem.MeetsSeq PySem.MeetsSeq2 PySem.MeetsSeq3
end
section
variable {prog : Program} {w : World} {A : Around} {E : Value → Shared → Prop} {s : Shared}
def sIx (n d : Nat) : Option Int → Nat
  | none => d
  | some v => if v < 0 then (v + (n : Int)).toNat else min v.toNat n
theorem sIx_none (n d : Nat) : sIx n d none = d := rfl
theorem sIx_nat (n d k : Nat) : sIx n d (some (k : Int)) = min k n := by
  show (if (k : Int) < 0 then ((k : Int) + (n : Int)).toNat else min (k : Int).toNat n) = min k n
  rw [if_neg (by omega), Int.toNat_natCast]
end
end HT
namespace L2
open PySem PySem.Spec PyProof.Rows
abbrev TO := St → Hp → (Option Int → Hp → Prop) → Prop
def PO (X : Cx) (e : Option Expr) (t : TO) : Prop :=
  ∀ (pins : List (Addr × Obj)) (s : Shared) (σ : St) (H : Hp) (Q : Option Int → Hp → Prop), Inv X pins σ H s → t σ H Q →
    wpAny (model X.prog X.w) X.A (evalPart e X.env) (fun u s' => ∃ o H', Inv X pins σ H' s' ∧ IsPart u o ∧ Q o H') X.xe s
def tNoPart : TO := fun _ H Q => Q none H
def tPart (t : TE) : TO := fun σ H Q => t σ H fun x H1 => ∃ i, x = .int i ∧ Q (some i) H1
section
variable {X : Cx} {e : Expr} {te : TE} {lo hi : Option Expr} {tl th : TO} {pos p2 : Pos}
theorem po_none : PO X none tNoPart := by
  intro pins s σ H Q I h
  rw [evalPart_none]
  exact wpAny_pure ⟨none, H, I, .none, h⟩
theorem po_some (h : PE X e te) : PO X (some e) (tPart te) := by
  intro pins s σ H Q I hw
  rw [evalPart_some]
  refine thn (h pins s σ H _ I hw) fun u s1 ⟨x, H1, I1, r1, q1⟩ => ?_
  obtain ⟨i, rfl, q⟩ := q1
  obtain ⟨t, rfl⟩ := r1
  exact ⟨some i, H1, I1, .int i t, q⟩
def SlR (X : Cx) (r : V → Option Int → Option Int → Hp → VK → Prop) : Prop :=
  ∀ (pins : List (Addr × Obj)) (s : Shared) (σ : St) (H : Hp) (x : V) (v vl vu : Value) (lo hi : Option Int) (sl : Addr) (Q : VK), Inv X pins σ H s → RelV x v → s.heap.IsSliceOf sl vl vu .none → IsPart vl lo → IsPart vu hi → r x lo hi H Q →
    ∃ T id, typeLookup (.type T) "__getitem__" = pure (some (.builtin id)) ∧ s.TypeIs v T ∧ wpAny (model X.prog X.w) X.A (getItem v (.ref sl)) (EP X pins σ Q) X.xe s
def tSl (r : V → Option Int → Option Int → Hp → VK → Prop) (te : TE) (tl th : TO) : TE := fun σ H Q => te σ H fun x H1 => tl σ H1 fun l H2 => th σ H2 fun u H3 => r x l u H3 Q
theorem pe_slice {r : V → Option Int → Option Int → Hp → VK → Prop} (hr : SlR X r) (he : PE X e te) (hl : PO X lo tl) (hu : PO X hi th) : PE X (.Subscript e (.Slice lo hi none p2) pos) (tSl r te tl th) := by
  intro pins s σ H Q I h
  refine Subscript_ (thn (he pins s σ H _ I h) fun v s1 ⟨x, H1, I1, r1, q1⟩ => ?_)
  refine wpAny_Slice (thn (hl pins s1 σ H1 _ I1 q1) fun vl s2 ⟨l, H2, I2, pl, q2⟩ => thn (hu pins s2 σ H2 _ I2 q2) fun vu s3 ⟨u, H3, I3, pu, q3⟩ => ?_)
  rw [evalPart_none]
  refine wpAny_pure ?_
  have I4 : Inv X pins σ H3 { s3 with heap := s3.heap.push { cls := .type "slice", data := .fields #[vl, vu, .none] } } := I3.kept (t' := s3.toks) fun b ob q => Heap.get?_push_of_some _ q
  obtain ⟨T, id, hT, ht, hg⟩ := hr pins { s3 with heap := s3.heap.push { cls := .type "slice", data := .fields #[vl, vu, .none] } } σ H3 x v vl vu l u s3.heap.objs.size Q I4 r1 (Heap.IsSliceOf.new ..) pl pu q3
  show wpAny (model X.prog X.w) X.A (subscriptTail e (.Slice lo hi none p2) v (.ref s3.heap.objs.size)) (EP X pins σ Q) X.xe { s3 with heap := s3.heap.push { cls := .type "slice", data := .fields #[vl, vu, .none] } }
  exact tail_any (ops := [.ref s3.heap.objs.size, v]) ht hT hg (by with_unfolding_all rfl)
def cutV (xs : List V) (lo hi : Option Int) : List V := (xs.drop (HT.sIx xs.length 0 lo)).take (HT.sIx xs.length xs.length hi - HT.sIx xs.length 0 lo)
theorem cutV_length (xs : List V) (lo hi : Option Int) : (cutV xs lo hi).length ≤ xs.length := by
  unfold cutV
  rw [List.length_take, List.length_drop]
  omega
end
end L2
namespace L2
open PySem PySem.Spec PyProof.Rows
def ixN (n : Nat) (i : Int) : Option Nat := if 0 ≤ i then (if i < n then some i.toNat else none) else if -(n : Int) ≤ i then some (i + n).toNat else none
def atI {α : Type} (xs : List α) (i : Int) : Option α := (ixN xs.length i).bind fun j => xs[j]?
theorem ixN_seq {n : Nat} {i : Int} {j : Nat} (h : ixN n i = some j) : seqIndex? i n = some j ∧ j < n ∧ -(n : Int) ≤ i ∧ i < n := by
  unfold ixN at h
  by_cases h0 : 0 ≤ i
  · rw [if_pos h0] at h
    by_cases h1 : i < n
    · rw [if_pos h1] at h
      have e : i.toNat = j := Option.some.inj h
      exact ⟨by rw [seqIndex_of h0 h1, e], by omega, by omega, h1⟩
    · rw [if_neg h1] at h; cases h
  · rw [if_neg h0] at h
    by_cases h1 : -(n : Int) ≤ i
    · rw [if_pos h1] at h
      have e : (i + n).toNat = j := Option.some.inj h
      exact ⟨by rw [seqIndex_neg (by omega) h1, e], by omega, h1, by omega⟩
    · rw [if_neg h1] at h; cases h
theorem atI_get {α : Type} {xs : List α} {i : Int} {v : α} (h : atI xs i = some v) : ∃ j, seqIndex? i xs.length = some j ∧ xs[j]? = some v ∧ j < xs.length ∧ -(xs.length : Int) ≤ i ∧ i < xs.length := by
  unfold atI at h
  cases e : ixN xs.length i with
  | none => rw [e] at h; cases h
  | some j =>
    rw [e] at h
    obtain ⟨h1, h2, h3, h4⟩ := ixN_seq e
    exact ⟨j, h1, h, h2, h3, h4⟩
theorem atI_nat {α : Type} {xs : List α} {j : Nat} {v : α} (h : xs[j]? = some v) : atI xs (j : Int) = some v := by
  have hj : j < xs.length := (List.getElem?_eq_some_iff.mp h).1
  have e : ixN xs.length (j : Int) = some j := by
    unfold ixN
    rw [if_pos (by omega), if_pos (by omega)]; simp
  unfold atI; rw [e]; exact h
def PlainIx (b : Expr) : Prop := ∀ o i, subscripted b false o i = operate [o, i] (getItem o i)
def IxR (X : Cx) (r : R2) : Prop :=
  ∀ (value slice : Expr) (pins : List (Addr × Obj)) (s : Shared) (σ : St) (H : Hp) (x y : V) (v u : Value) (Q : VK), Inv X pins σ H s → RelV x v → RelV y u → r x y H Q →
    subscripted slice false v u = operate [v, u] (getItem v u) → wpAny (model X.prog X.w) X.A (subscriptTail value slice v u) (EP X pins σ Q) X.xe s
def MtR (X : Cx) (id : String) (r : V → List V → Hp → VK → Prop) : Prop :=
  ∀ (pins : List (Addr × Obj)) (s : Shared) (σ : St) (H : Hp) (x : V) (xs : List V) (v : Value) (us : List Value) (Q : VK), Inv X pins σ H s → RelV x v → Vals xs us → r x xs H Q →
    wpAny (model X.prog X.w) X.A (call (.builtin id) (v :: us)) (EP X pins σ Q) X.xe s
section
variable {X : Cx} {a b : Expr} {ta tb : TE} {pos : Pos}
theorem pe_ix {r : R2} (hr : IxR X r) (ha : PE X a ta) (hb : PE X b tb) (hs : PlainIx b) : PE X (.Subscript a b pos) (tOp r ta tb) := by
  intro pins s σ H Q I h
  exact Subscript_ (binT ha hb I h fun v u s2 x y H2 I2 rx ry q => hr a b pins s2 σ H2 x y v u Q I2 rx ry q (hs _ _))
def rIxL (K : PySem.W.Frag) : R2 := fun x y H Q => ∃ p xs i v, x = .ref p ∧ y = .int i ∧ SqL K H p xs ∧ atI xs i = some v ∧ Q v H
def rIxT (K : PySem.W.Frag) : R2 := fun x y H Q => ∃ p xs i v, x = .ref p ∧ y = .int i ∧ SqT K H p xs ∧ atI xs i = some v ∧ Q v H
def rIxS : R2 := fun x y H Q => ∃ z i c, x = .str z ∧ y = .int i ∧ z.length ≤ sizeLine ∧ atI z.cps.toList i = some c ∧ Q (.str ⟨#[c]⟩) H
theorem ix_list : IxR X (rIxL X.K) := by
  intro value slice pins s σ H x y v u Q I rx ry h hs
  obtain ⟨p, xs, i, z, rfl, rfl, hq, he, q⟩ := h
  cases rx
  obtain ⟨t, rfl⟩ := ry
  obtain ⟨its, r, pl, hz⟩ := I.list hq
  obtain ⟨j, h1, h2, h3, h4, h5⟩ := atI_get he
  obtain ⟨w, ew, rw'⟩ := r.get h2
  have hl := r.length
  have hn := line63
  have fin : EP X pins σ Q w s := ⟨z, H, I, rw', q⟩
  by_cases h0 : 0 ≤ i
  · have hj : i.toNat = j := by
      rw [seqIndex_of h0 h5] at h1
      exact Option.some.inj h1
    exact item_listR pl.isList h0 (by omega) (by rw [hj]; simpa using ew) fin hs
  · have hj : (i + (its.toArray.size : Int)).toNat = j := by
      rw [seqIndex_neg (by omega) h4] at h1
      rw [List.size_toArray, ← hl]
      exact Option.some.inj h1
    exact subscriptTail_builtinR (x := w) pl.isList.typeIs slot_list_getitem.lookup
      (wpAny_getItem_list_neg (Q := fun r s' => r = w ∧ EP X pins σ Q r s') pl.isList (by omega) (by rw [List.size_toArray] <;> omega) (by omega) (by rw [hj]; simpa using ew) ⟨rfl, fin⟩) hs
theorem ix_tup : IxR X (rIxT X.K) := by
  intro value slice pins s σ H x y v u Q I rx ry h hs
  obtain ⟨p, xs, i, z, rfl, rfl, hq, he, q⟩ := h
  cases rx
  obtain ⟨t, rfl⟩ := ry
  obtain ⟨its, r, pl, hz⟩ := I.tuple hq
  obtain ⟨j, h1, h2, h3, h4, h5⟩ := atI_get he
  obtain ⟨w, ew, rw'⟩ := r.get h2
  have hl := r.length
  have hn := line63
  have fin : EP X pins σ Q w s := ⟨z, H, I, rw', q⟩
  exact subscriptTail_builtinR (x := w) pl.typeIs slot_tuple_getitem.lookup
    (getItem_tuple (j := j) (Q := fun r s' => r = w ∧ EP X pins σ Q r s') pl (by omega) (by omega) (by rw [List.size_toArray, ← hl]; exact h1) (by simpa using ew) ⟨rfl, fin⟩) hs
theorem ix_str : IxR X rIxS := by
  intro value slice pins s σ H x y v u Q I rx ry h hs
  obtain ⟨z, i, c, rfl, rfl, hz, he, q⟩ := h
  obtain ⟨t, rfl⟩ := rx
  obtain ⟨t', rfl⟩ := ry
  obtain ⟨j, h1, h2, h3, h4, h5⟩ := atI_get he
  have hl : z.cps.toList.length = z.length := by simp [Str.length]
  rw [hl] at h1 h4 h5
  have hn := line63
  exact tail_any (typeIs_str s z t) slot_str_getitem.lookup (getItem_str (c := c) (by
    have e1 : decide (i < -(2 ^ 63 : Int)) = false := decide_eq_false (by omega)
    have e2 : decide (i ≥ 2 ^ 63) = false := decide_eq_false (by omega)
    rw [e1, e2, Bool.or_false]) (by rw [h1]; simpa using h2) ⟨.str ⟨#[c]⟩, H, I.tok _, ⟨_, rfl⟩, q⟩) hs
theorem Inv.lst {pins : List (Addr × Obj)} {σ : St} {H : Hp} {s : Shared} {p : Addr} {xs : List V} (I : Inv X pins σ H s) (h : H p = some (.lst xs)) :
    ∃ (its : List Value) (n : Nat), Vals xs its ∧ s.heap.get? p = some { cls := .type "list", data := .seq its.toArray n } ∧ xs.length ≤ sizeLine := by
  obtain ⟨z, its, n, r, e⟩ := I.hok p _ h
  exact ⟨its, n, r, e, z⟩
theorem slice_bounds (lo hi : Option Int) (n : Nat) : (sliceBounds lo hi none n).1 = ((HT.sIx n 0 lo : Nat) : Int) ∧ (sliceBounds lo hi none n).2.1 = ((HT.sIx n n hi : Nat) : Int) ∧ (sliceBounds lo hi none n).2.2 = 1 := by
  refine ⟨?_, ?_, rfl⟩
  · cases lo with
    | none => simp [sliceBounds, HT.sIx]
    | some i =>
      simp only [sliceBounds, HT.sIx, Option.getD_none, show (1 : Int) > 0 by decide, if_true]
      by_cases h : i < 0
      · simp only [h, if_true] <;> omega
      · simp only [h, if_false] <;> omega
  · cases hi with
    | none => simp [sliceBounds, HT.sIx]
    | some i =>
      simp only [sliceBounds, HT.sIx, Option.getD_none, show (1 : Int) > 0 by decide, if_true]
      by_cases h : i < 0
      · simp only [h, if_true] <;> omega
      · simp only [h, if_false] <;> omega
theorem slicePick_cut (its : List Value) (lo hi : Option Int) : slicePick its.toArray lo hi none = ((its.drop (HT.sIx its.length 0 lo)).take (HT.sIx its.length its.length hi - HT.sIx its.length 0 lo)).toArray := by
  obtain ⟨h1, h2, h3⟩ := slice_bounds lo hi its.toArray.size
  unfold slicePick
  rw [h1, h2, h3]
  simp only [sliceRange_one, pick_run, List.size_toArray] <;> rfl
def rSlL (K : PySem.W.Frag) : V → Option Int → Option Int → Hp → VK → Prop := fun x lo hi H Q => ∃ a xs, x = .ref a ∧ SqL K H a xs ∧ ∀ p, H p = none → Q (.ref p) (upd H p (.lst (cutV xs lo hi)))
theorem sl_list : SlR X (rSlL X.K) := by
  intro pins s σ H x v vl vu lo hi sl Q I rx hs pl pu h
  obtain ⟨a, xs, rfl, hx, q⟩ := h
  cases rx
  obtain ⟨its, r, ht, hz⟩ := I.list hx
  have hlen := r.length
  refine ⟨"list", _, slot_list_getitem.lookup, ht.isList.typeIs, ?_⟩
  refine wpAny_getItem_list_slice ht.isList hs pl pu .none (by simp) ?_ (by rw [List.size_toArray] <;> omega)
  rw [slicePick_cut, ← hlen]
  refine ⟨.ref s.heap.objs.size, _, I.laid (t' := s.toks) (o := .lst (cutV xs lo hi)) (fun b ob q => Heap.get?_push_of_some _ q) (Nat.le_refl _) ?_, rfl, q _ (I.hok.fresh (Nat.le_refl _))⟩
  exact ⟨Nat.le_trans (cutV_length xs lo hi) hz, _, 0, (r.drop (HT.sIx xs.length 0 lo)).take (HT.sIx xs.length xs.length hi - HT.sIx xs.length 0 lo), Heap.get?_push_size _ rfl⟩
def flatV : V → Bool
  | .non => true
  | .bl _ => true
  | .int _ => true
  | .str _ => true
  | _ => false
def eqV : V → V → Bool
  | .non, .non => true
  | .bl a, .bl b => a == b
  | .bl a, .int b => (if a then 1 else 0) == b
  | .int a, .bl b => a == (if b then 1 else 0)
  | .int a, .int b => a == b
  | .str a, .str b => a == b
  | _, _ => false
theorem eqAt_V {A : Around} {s : Shared} {y x : V} {u v : Value} (ry : RelV y u) (rx : RelV x v) (fy : flatV y = true) (fx : flatV x = true) : SeqAt.EqAt A s u v (eqV y x) := by
  cases y with
  | non =>
    cases ry
    cases x with
    | non => cases rx; exact SeqAt.EqAt.same _
    | bl b => cases rx; exact SeqAt.EqAt.none_bool b
    | int b => obtain ⟨t, rfl⟩ := rx; exact SeqAt.EqAt.none_int b t
    | str b => obtain ⟨t, rfl⟩ := rx; exact SeqAt.EqAt.none_str b t
    | _ => exact absurd (show false = true from fx) Bool.false_ne_true
  | bl a =>
    cases ry
    cases x with
    | non => cases rx; exact SeqAt.EqAt.bool_none a
    | bl b => cases rx; exact SeqAt.EqAt.bool_bool a b
    | int b => obtain ⟨t, rfl⟩ := rx; exact SeqAt.EqAt.bool_int a b t
    | str b => obtain ⟨t, rfl⟩ := rx; exact SeqAt.EqAt.bool_str a b t
    | _ => exact absurd (show false = true from fx) Bool.false_ne_true
  | int a =>
    obtain ⟨t', rfl⟩ := ry
    cases x with
    | non => cases rx; exact SeqAt.EqAt.int_none a t'
    | bl b => cases rx; exact SeqAt.EqAt.int_bool a t' b
    | int b => obtain ⟨t, rfl⟩ := rx; exact SeqAt.EqAt.int_int a t' b t
    | str b => obtain ⟨t, rfl⟩ := rx; exact SeqAt.EqAt.int_str a t' b t
    | _ => exact absurd (show false = true from fx) Bool.false_ne_true
  | str a =>
    obtain ⟨t', rfl⟩ := ry
    cases x with
    | non => cases rx; exact SeqAt.EqAt.str_none a t'
    | bl b => cases rx; exact SeqAt.EqAt.str_bool a t' b
    | int b => obtain ⟨t, rfl⟩ := rx; exact SeqAt.EqAt.str_int a t' b t
    | str b => obtain ⟨t, rfl⟩ := rx; exact SeqAt.EqAt.str_str a t' b t
    | _ => exact absurd (show false = true from fx) Bool.false_ne_true
  | _ => exact absurd (show false = true from fy) Bool.false_ne_true
def eqU (x : V) (u : Value) : Bool := match u with
  | .none => eqV .non x
  | .bool b => eqV (.bl b) x
  | .int i _ => eqV (.int i) x
  | .str z _ => eqV (.str z) x
  | _ => false
theorem eqU_of {x y : V} {u : Value} (r : RelV y u) (f : flatV y = true) : eqU x u = eqV y x := by
  cases y with
  | non => cases r; rfl
  | bl b => cases r; rfl
  | int i => obtain ⟨t, rfl⟩ := r; rfl
  | str z => obtain ⟨t, rfl⟩ := r; rfl
  | _ => exact absurd (show false = true from f) Bool.false_ne_true
theorem any_eqU {x : V} : ∀ {xs : List V} {us : List Value}, Vals xs us → xs.all flatV = true → us.any (eqU x) = xs.any fun y => eqV y x
  | _, _, .nil, _ => rfl
  | y :: xs, u :: us, .cons r t, f => by
    rw [List.all_cons, Bool.and_eq_true] at f
    rw [List.any_cons, List.any_cons, eqU_of r f.1, any_eqU t f.2]
theorem mem_eqAt {A : Around} {s : Shared} {x : V} {v : Value} (rx : RelV x v) (fx : flatV x = true) : ∀ {xs : List V} {us : List Value}, Vals xs us → xs.all flatV = true → ∀ u ∈ us, SeqAt.EqAt A s u v (eqU x u)
  | _, _, .nil, _ => fun u hu => by cases hu
  | y :: xs, u :: us, .cons r t, f => fun u' hu => by
    rw [List.all_cons, Bool.and_eq_true] at f
    rcases List.mem_cons.mp hu with rfl | hu
    · rw [eqU_of r f.1]; exact eqAt_V r rx f.1 fx
    · exact mem_eqAt rx fx t f.2 u' hu
def inV (x : V) (xs : List V) : Bool := xs.any fun y => eqV y x
def rIn (K : PySem.W.Frag) (neg : Bool) : R2 := fun x y H Q => ∃ p xs, y = .ref p ∧ (SqL K H p xs ∨ SqT K H p xs) ∧ flatV x = true ∧ xs.all flatV = true ∧ Q (.bl (if neg then !inV x xs else inV x xs)) H
theorem op_in_seq : OpR X (compareOp .In) (rIn X.K false) := by
  intro pins s σ H x y v u Q I rx ry h
  obtain ⟨p, xs, rfl, hq, fx, fs, q⟩ := h
  cases ry
  rcases hq with hq | hq
  · obtain ⟨its, r, pl, hz⟩ := I.list hq
    refine SeqAt.in_listAt (eqU x) pl.isList (fun w hw => mem_eqAt rx fx r fs w (by simpa using hw)) ⟨.bl _, H, I, rfl, ?_⟩
    rw [show its.toArray.any (eqU x) = its.any (eqU x) by simp, any_eqU r fs]
    exact q
  · obtain ⟨its, r, pl, hz⟩ := I.tuple hq
    refine SeqAt.in_tupleAt (eqU x) pl (fun w hw => mem_eqAt rx fx r fs w (by simpa using hw)) ⟨.bl _, H, I, rfl, ?_⟩
    rw [show its.toArray.any (eqU x) = its.any (eqU x) by simp, any_eqU r fs]
    exact q
theorem op_notIn_seq : OpR X (compareOp .NotIn) (rIn X.K true) := by
  intro pins s σ H x y v u Q I rx ry h
  obtain ⟨p, xs, rfl, hq, fx, fs, q⟩ := h
  cases ry
  rcases hq with hq | hq
  · obtain ⟨its, r, pl, hz⟩ := I.list hq
    refine SeqAt.notIn_listAt (eqU x) pl.isList (fun w hw => mem_eqAt rx fx r fs w (by simpa using hw)) ⟨.bl _, H, I, rfl, ?_⟩
    rw [show its.toArray.any (eqU x) = its.any (eqU x) by simp, any_eqU r fs]
    exact q
  · obtain ⟨its, r, pl, hz⟩ := I.tuple hq
    refine SeqAt.notIn_tupleAt (eqU x) pl (fun w hw => mem_eqAt rx fx r fs w (by simpa using hw)) ⟨.bl _, H, I, rfl, ?_⟩
    rw [show its.toArray.any (eqU x) = its.any (eqU x) by simp, any_eqU r fs]
    exact q
theorem call_len_seq : CallR X (.builtin "len") (fun xs H Q => ∃ p ys, xs = [.ref p] ∧ (SqL X.K H p ys ∨ SqT X.K H p ys) ∧ Q (.int ys.length) H) := by
  intro pins s σ H xs us Q I r h
  obtain ⟨p, ys, rfl, hq, q⟩ := h
  obtain ⟨u, rfl, rx⟩ := vals1 r
  cases rx
  have hn := line63
  rcases hq with hq | hq
  · obtain ⟨its, r', pl, hz⟩ := I.list hq
    have hlen := r'.length
    exact Calls.call_len_list pl.isList (by simp only [List.size_toArray] <;> omega) ⟨.int ys.length, H, I.tok _, ⟨s.toks + 1, by rw [List.size_toArray, hlen]⟩, q⟩
  · obtain ⟨its, r', pl, hz⟩ := I.tuple hq
    have hlen := r'.length
    exact len_tuple pl (by simp only [List.size_toArray] <;> omega) ⟨.int ys.length, H, I.tok _, ⟨s.toks + 1, by rw [List.size_toArray, hlen]⟩, q⟩
theorem call_len_str : CallR X (.builtin "len") (fun xs H Q => ∃ z, xs = [.str z] ∧ z.length ≤ sizeLine ∧ Q (.int z.length) H) := by
  intro pins s σ H xs us Q I r h
  obtain ⟨z, rfl, hz, q⟩ := h
  obtain ⟨u, rfl, t, rfl⟩ := vals1 r
  have hn := line63
  exact len_str (by omega) ⟨.int z.length, H, I.tok _, ⟨_, rfl⟩, q⟩
theorem call_tuple_of : CallR X (.type "tuple") (fun xs H Q => ∃ p ys, xs = [.ref p] ∧ ((SqL X.K H p ys ∧ ∀ l, H l = none → Q (.ref l) (upd H l (.tup ys))) ∨ (SqT X.K H p ys ∧ Q (.ref p) H))) := by
  intro pins s σ H xs us Q I r h
  obtain ⟨p, ys, rfl, h⟩ := h
  obtain ⟨u, rfl, rx⟩ := vals1 r
  cases rx
  rcases h with ⟨hq, q⟩ | ⟨hq, q⟩
  · obtain ⟨its, r', pl, hz⟩ := I.list hq
    have hlen := r'.length
    refine call_tuple_list pl.isList (fun h' kp => ?_) (by simp only [List.size_toArray] <;> omega)
    have I1 : Inv X pins σ H { s with heap := h' } := I.kept (t' := s.toks) kp
    have I2 : Inv X pins σ (upd H h'.objs.size (.tup ys)) { s with heap := h'.push { cls := .type "tuple", data := .seq its.toArray } } :=
      I1.laid (t' := s.toks) (fun b o e => Heap.get?_push_of_some _ e) (Nat.le_refl _) (show ObjOk X.prog X.w _ _ _ (.tup ys) from ⟨hz, its, r', IsTup.new _ _⟩)
    exact ⟨.ref h'.objs.size, _, I2, rfl, q _ (I1.hok.fresh (Nat.le_refl _))⟩
  · obtain ⟨its, r', pl, hz⟩ := I.tuple hq
    exact call_tuple_same pl ⟨.ref p, H, I, rfl, q⟩
def tyV (K : PySem.W.Frag) (T : String) (x : V) (H : Hp) : Prop := match x with
  | .str _ => T = "str"
  | .int _ => T = "int"
  | .ref p => (T = "list" ∧ ∃ xs, SqL K H p xs) ∨ (T = "tuple" ∧ ∃ o, K.lookup p = some o ∧ o.cls = .type "tuple" ∧ o.dict = none) ∨
      (T = "dict" ∧ ((∃ kvs, H p = some (.dK kvs)) ∨ ∃ kvs, H p = some (.dT kvs))) ∨ (T = "set" ∧ ∃ S n, H p = some (.set S n))
  | _ => False
theorem tyV_is {pins : List (Addr × Obj)} {σ : St} {H : Hp} {s : Shared} {T : String} {x : V} {v : Value} (I : Inv X pins σ H s) (r : RelV x v) (ty : tyV X.K T x H) :
    s.TypeIs v T ∧ ∀ a, v = .ref a → ∃ ob, s.heap.get? a = some ob ∧ ob.dict = none := by
  cases x with
  | str z =>
    obtain ⟨t, rfl⟩ := r
    cases (show T = "str" from ty)
    exact ⟨typeIs_str s z t, fun _ e => nomatch e⟩
  | int i =>
    obtain ⟨t, rfl⟩ := r
    cases (show T = "int" from ty)
    exact ⟨typeIs_int s i t, fun _ e => nomatch e⟩
  | ref p =>
    cases r
    rcases ty with ⟨rfl, xs, hq⟩ | ⟨rfl, o, hk, hc, hd⟩ | ⟨rfl, hk⟩ | ⟨rfl, S, n, hk⟩
    · obtain ⟨its, _, pl, _⟩ := I.list hq
      refine ⟨pl.isList.typeIs, fun a e => ?_⟩
      cases e
      obtain ⟨o, n, e, c, hd, _⟩ := pl
      exact ⟨o, e, hd⟩
    · refine ⟨⟨o, I.kIn p o hk, hc⟩, fun a e => ?_⟩
      cases e
      exact ⟨o, I.kIn _ o hk, hd⟩
    · have z : ∃ o, s.heap.get? p = some o ∧ o.ExactDict := by
        rcases hk with ⟨kvs, hk⟩ | ⟨kvs, hk⟩
        · obtain ⟨_, _, _, _, o, _, _, e, ex, _⟩ := I.hok p _ hk
          exact ⟨o, e, ex⟩
        · obtain ⟨_, _, _, _, o, _, _, e, ex, _⟩ := I.hok p _ hk
          exact ⟨o, e, ex⟩
      obtain ⟨o, e, ex⟩ := z
      refine ⟨⟨o, e, ex.1⟩, fun a e2 => ?_⟩
      cases e2
      exact ⟨o, e, ex.2.1⟩
    · obtain ⟨o, _, _, _, e, ex, _⟩ := I.hok p _ hk
      refine ⟨⟨o, e, ex.1⟩, fun a e2 => ?_⟩
      cases e2
      exact ⟨o, e, ex.2.1⟩
  | _ => exact False.elim ty
def tBM (K : PySem.W.Frag) (T : String) (r : V → List V → Hp → VK → Prop) (to : TE) (t : TA) : TE := fun σ H Q => to σ H fun x H1 => tyV K T x H1 ∧ t σ H1 fun xs H2 => r x xs H2 Q
variable {o e : Expr} {es : List Expr} {to : TE} {t : TA} {name : Str} {apos cpos : Pos} {T id : String} {r : V → List V → Hp → VK → Prop}
theorem pe_bm (pa : PlainAttrs T) (slot : Slot T name id) (hty : typeOf (.builtin id) = pure (.type "method_descriptor")) (hm : MtR X id r) (ho : PE X o to) (ha : PA X (e :: es) t)
    (hbase : attributeBase o name X.env (eval o X.env) = eval o X.env := by rfl)
    (hfew : ((backTo cpos (starEach (e :: es) X.env)).all (fun x => !x.1) && (backToKw cpos (keywordEach [] X.env)).all (fun x => x.1.isSome)
      && decide ((e :: es).length + ([] : List Keyword).length + (if ([] : List Keyword).isEmpty then 0 else 1) < 30)) = true := by rfl)
    (hline : (apos.endLine == cpos.line) = true := by rfl) (hs : starEach (e :: es) X.env = (false, eval e X.env) :: starEach es X.env := by rfl) (hplain : (backTo cpos (starEach es X.env)).any (·.1) = false := by rfl) :
    PE X (.Call (.Attribute o name apos) (e :: es) [] cpos) (tBM X.K T r to t) := by
  intro pins s σ H Q I h
  refine wpAny_Call_method_late hbase hfew hline rfl (thn (ho pins s σ H _ I h) fun v s1 ⟨x, H1, I1, r1, ty, q1⟩ => ?_)
  obtain ⟨h1, h2⟩ := tyV_is I1 r1 ty
  refine ⟨T, id, pa, slot, hty, h1, h2, ?_⟩
  have hA := ha cpos pins s1 σ H1 _ I1 q1
  rw [hs] at hA ⊢
  refine Calls.callWith_builtin (by show (false || (backTo cpos (starEach es X.env)).any (·.1)) = false; rw [hplain] <;> rfl) (Calls.evalArgs_plain ?_)
  exact thn hA fun us s2 ⟨vs, H2, I2, r2, q2⟩ => hm pins s2 σ H2 x vs v us Q I2 r1 r2 q2
end
end L2
namespace L2
open PySem PySem.Spec PyProof.Rows
def MtM (X : Cx) (id : String) (r : V → List V → Hp → VK → Prop) : Prop :=
  ∀ (pins : List (Addr × Obj)) (s : Shared) (σ : St) (H : Hp) (x : V) (xs : List V) (v : Value) (us : List Value) (Q : VK), Inv X pins σ H s → RelV x v → Vals xs us → r x xs H Q →
    wpAny (model X.prog X.w) X.A (call (.builtin id) (v :: us)) (EP X pins σ Q) X.xe s
theorem Vals.one : ∀ {x : V} {us : List Value}, Vals [x] us → ∃ u, us = [u] ∧ RelV x u
  | _, _, .cons r .nil => ⟨_, rfl, r⟩
section
variable {X : Cx} {pins : List (Addr × Obj)} {σ : St} {H : Hp} {s : Shared} {l b : Addr} {xs ys zs : List V}
theorem Inv.lset {its its' : List Value} {n : Nat} {f : Array Value → Array Value} {t' : Nat} (I : Inv X pins σ H s) (hH : H l = some (.lst xs))
    (e : s.heap.get? l = some { cls := .type "list", data := .seq its.toArray n }) (hf : f its.toArray = its'.toArray) (hv : Vals ys its') (hz : ys.length ≤ sizeLine) :
    Inv X pins σ (upd H l (.lst ys)) { s with heap := s.heap.update l (Obj.mapSeq f), toks := t' } := by
  have q := PySem.IsL.update e f
  rw [hf] at q
  refine I.write (x := l) (e := l) (by rw [hH]; exact trivial) (.inl rfl) (fun b' u hb hu => (Heap.get?_update_other s.heap (Obj.mapSeq f) (Ne.symm hb)).trans hu) ⟨_, q⟩ ?_
  exact ⟨hz, its', _, hv, q⟩
theorem Inv.lnew {its : List Value} {t' : Nat} (I : Inv X pins σ H s) (hv : Vals ys its) (hz : ys.length ≤ sizeLine) :
    Inv X pins σ (upd H s.heap.objs.size (.lst ys)) { s with heap := s.heap.push { cls := .type "list", data := .seq its.toArray }, toks := t' } :=
  I.laid (fun _ _ q => Heap.get?_push_of_some _ q) (Nat.le_refl _) ⟨hz, its, 0, hv, Heap.get?_push_size _ rfl⟩
theorem Inv.fresh (I : Inv X pins σ H s) : H s.heap.objs.size = none := I.hok.fresh (Nat.le_refl _)
theorem Inv.lstM (I : Inv X pins σ H s) (hH : H l = some (.lst xs)) : xs.length ≤ sizeLine ∧ ∃ (its : List Value) (n : Nat), Vals xs its ∧ xs.length = its.length ∧ s.heap.get? l = some { cls := .type "list", data := .seq its.toArray n } := by
  obtain ⟨z, its, n, r, e⟩ := I.hok l _ hH
  exact ⟨z, its, n, r, r.length, e⟩
theorem notLongL {n : Nat} (h : n ≤ sizeLine) : Builtin.List.listTooLong n = false := by
  unfold Builtin.List.listTooLong
  exact decide_eq_false (by omega)
end
section
variable {X : Cx}
def rAppend : V → List V → Hp → VK → Prop := fun x vs H Q => ∃ l xs y, x = .ref l ∧ vs = [y] ∧ H l = some (.lst xs) ∧ xs.length < sizeLine ∧ Q .non (upd H l (.lst (xs ++ [y])))
theorem mt_append : MtM X "list.append" rAppend := by
  intro pins s σ H x vs v us Q I rx rv h
  obtain ⟨l, xs, y, rfl, rfl, hH, hz, q⟩ := h
  cases rx
  obtain ⟨u, rfl, ru⟩ := rv.one
  obtain ⟨z, its, n, r, hl, e⟩ := I.lstM hH
  refine call_meets F.slot_list_append ⟨_, e, rfl⟩ F.entry_list_append (F.args_list_append_2 _ _) (PySem.list_append l its.toArray n u (by rw [List.size_toArray]; omega)) ⟨e, ?_⟩
  refine ⟨.non, _, I.lset (its' := its ++ [u]) hH e (by simp) (r.append (.cons ru .nil)) ?_, rfl, q⟩
  rw [List.length_append, List.length_singleton]
  omega
def rExtend : V → List V → Hp → VK → Prop := fun x vs H Q => ∃ l b xs zs, x = .ref l ∧ vs = [.ref b] ∧ H l = some (.lst xs) ∧ H b = some (.lst zs) ∧ xs.length + zs.length ≤ sizeLine ∧ Q .non (upd H l (.lst (xs ++ zs)))
theorem mt_extend : MtM X "list.extend" rExtend := by
  intro pins s σ H x vs v us Q I rx rv h
  obtain ⟨l, b, xs, zs, rfl, rfl, hH, hB, hz, q⟩ := h
  cases rx
  obtain ⟨u, rfl, ru⟩ := rv.one
  cases ru
  obtain ⟨z, its, n, r, hl, e⟩ := I.lstM hH
  obtain ⟨z2, its2, n2, r2, hl2, e2⟩ := I.lstM hB
  have hsz : its.toArray.size + its2.toArray.size ≤ sizeLine := by rw [List.size_toArray, List.size_toArray]; omega
  have hlong : ¬ (!its.toArray.isEmpty && Builtin.List.listTooLong (its.toArray.size + its2.toArray.size)) = true := by
    rw [notLongL hsz, Bool.and_false]
    exact Bool.false_ne_true
  refine call_meets F.slot_list_extend ⟨_, e, rfl⟩ F.entry_list_extend (F.args_list_extend_2 _ _)
    (AutoSeq1.list_extend_list_list_0 l its.toArray n b its2.toArray n2 hlong (by rw [List.size_toArray]; omega) (by omega)) ⟨e, e2, ?_⟩
  refine ⟨.non, _, I.lset (its' := its ++ its2) hH e (by simp) (r.append r2) ?_, rfl, q⟩
  rw [List.length_append]
  omega
def rCat : R2 := fun x y H Q => ∃ l b xs zs, x = .ref l ∧ y = .ref b ∧ H l = some (.lst xs) ∧ H b = some (.lst zs) ∧ xs.length + zs.length ≤ sizeLine ∧ ∀ p, H p = none → Q (.ref p) (upd H p (.lst (xs ++ zs)))
theorem op_cat : OpR X (binaryOp .Add) rCat := by
  intro pins s σ H x y v u Q I rx ry h
  obtain ⟨l, b, xs, zs, rfl, rfl, hH, hB, hz, q⟩ := h
  cases rx
  cases ry
  obtain ⟨z, its, n, r, hl, e⟩ := I.lstM hH
  obtain ⟨z2, its2, n2, r2, hl2, e2⟩ := I.lstM hB
  refine PySem.P.add_list e e2 ?_ (by rw [List.size_toArray, List.size_toArray]; omega)
  have ea : its.toArray ++ its2.toArray = (its ++ its2).toArray := by simp
  rw [ea]
  exact ⟨.ref _, _, I.lnew (t' := s.toks) (r.append r2) (by rw [List.length_append]; omega), rfl, q _ I.fresh⟩
end
end L2
namespace Att
open PySem PySem.W PySem.Calls PyProof.Rows
theorem ints_of_wellAll {P : Params} {h : Heap} : ∀ (ns : List Int) (vs : List Value), WellAll P h vs (ns.map WData.int) → IntsAre vs ns := by
  intro ns
  induction ns with
  | nil =>
    intro vs w
    rw [List.map_nil] at w
    cases w
    exact .nil
  | cons n ns ih =>
    intro vs w
    rw [List.map_cons] at w
    cases w with
    | cons a b =>
      cases a
      exact .cons _ _ (ih _ b)
theorem script_of {l : OpenLaw} {n : Nat} (hn : l.most = some n) {P : Params} {h : Heap} {args : List WData} {vals : List Value}
    (hpre : l.row.toRowW.claim.pre args = true) (hwl : WellAll P h vals args) :
    ∃ a vs ns, vals = [Value.ref a] ∧ args = [WData.list (ns.map WData.int)] ∧ h.get? a = some { cls := .type "list", data := .seq vs.toArray } ∧ IntsAre vs ns ∧ ns.length ≤ n := by
  have hsh : WShape.hasAll [] args [.list .int] = true := (pre_splitW hpre).1
  have hc : l.pre.holds [] { args := args } = true := (pre_splitW hpre).2
  obtain ⟨d, r, rfl, h1, h2⟩ := hasAllW_cons hsh
  obtain rfl := hasAllW_nil h2
  obtain ⟨xs, rfl, h3⟩ := hasW_list h1
  obtain ⟨ns, rfl⟩ := items_int h3
  have hlen : ns.length ≤ n := by
    unfold OpenLaw.pre at hc
    have h4 : (WTm.not (.lt (.lit (.int (n : Int))) (.len (.arg 0)))).holds [] { args := [.list (ns.map .int)] } = true := by
      have h4 := (holds_andW hc).1
      rw [hn] at h4
      exact h4
    have h5 := condW_of h4 (w_not (w_lt w_lit (w_len_list (w_arg rfl))))
    rw [List.length_map] at h5
    refine Nat.le_of_not_lt fun q => ?_
    have q' : (n : Int) < ((ns.length : Nat) : Int) := by omega
    first
      | (rw [decide_eq_true q'] at h5; exact absurd h5 (by decide))
      | (simp at h5; omega)
  cases hwl with
  | cons w1 w2 =>
    cases w2
    cases w1 with
    | list ho hall => exact ⟨_, _, ns, rfl, rfl, ho, ints_of_wellAll ns _ hall, hlen⟩
theorem post_true (l : OpenLaw) (args : List WData) : l.row.toRowW.claim.post args (.bool true) args = true :=
  postW_of (r := l.row.toRowW) (X := (true == true))
    (show WShape.has [] (.bool true) .bool = true by first | rfl | decide | simp [WShape.has, WShape.arms, WShape.armsAll])
    (show (WTm.eq .res (.lit (.bool true))).value [] { args := args, res := some (.bool true), after := args } = some (.bool (true == true)) from w_eq_bool (w_res rfl) w_lit) rfl
theorem attach_call {l : OpenLaw} {n : Nat} {q : Program} {loose : List Str} {XP : (Str → Option Value) → Heap → Prop} {YP : World → Heap → Prop} {d : DefRec}
    (hn : l.most = some n) (hdf : d.params.defaults = [])
    (call : ∀ (w : World) (s₀ s₁ : Shared) (mg mb : Str → Option Value) (fa : Addr) (o : Obj) (pm cd doc : Value) (a : Addr) (vs : List Value) (ns : List Int),
      Ground q loose [] XP w s₀ mg mb s₁.heap → YP w s₁.heap →
      s₁.heap.get? fa = some o → o.data = .func (docDef d.name d.params d.body d.scope pm cd doc) → s₁.heap.CodeRec cd d.name → mg d.name = some (.ref fa) →
      s₁.heap.get? a = some { cls := .type "list", data := .seq vs.toArray } → IntsAre vs ns → ns.length ≤ n → s₁.gens = #[] →
      codeAny (model l.prog w) callerA (.call (.ref fa) ⟨[.ref a], []⟩) (fun r s' => r = .ok (.ret (.bool true)) ∧ OldK s₁.heap s'.heap ∧ s'.os = s₁.os ∧ AllBare s'.gens) s₁) :
    WalkO q loose XP YP l.row.toRowW d [] (fun f vs => PySem.call f vs) := by
  intro w s₀ s₁ mg mb G Y fa o pm cd doc dV kV ho hd hcd hD hmg hg args vals as hpre hlay hrd hwl hlo
  obtain rfl : dV = .none := Dflts.none hD hdf
  obtain rfl : kV = .none := Dflts.noKw hD
  obtain ⟨a, vs, ns, rfl, rfl, hobj, hints, hlen⟩ := script_of hn hpre hwl
  refine enter_call (codeAny_mono (call w s₀ s₁ mg mb fa o pm cd doc a vs ns G Y ho (fd_plain hd) hcd hmg hobj hints hlen hg) fun r s' hq => ?_)
  obtain ⟨rfl, h2, h3, h4⟩ := hq
  exact ⟨.inl ⟨.bool true, .bool true, [], rfl, fun _ => rfl, .bool true, post_true l _, fun _ => ⟨List.Pairwise.nil, fun _ hm => (nomatch hm)⟩⟩, h2, h3, h4⟩
end Att
namespace L2
open PySem PySem.Spec PyProof.Rows
theorem vals_ints : ∀ {vs : List Value} {ns : List Int}, IntsAre vs ns → Vals (ns.map V.int) vs
  | _, _, .nil => .nil
  | _, _, .cons n t h => .cons ⟨t, rfl⟩ (vals_ints h)
def Only (H : Hp) : Prop := ∀ b, H b = none ∨ ∃ o xs, H b = some (.frz o (.lst xs))
theorem law_call {P : Program} {w : World} {K : PySem.W.Frag} {mg mb : Str → Option Value} {CX : CXT} {k : Nat} {fa a : Addr} {fd : FuncData} {x : Str} {sp : Sp} {s₁ : Shared} {vs : List Value} {ns : List Int}
    (KX : K.In s₁.heap) (hns : s₁.heap.Ns mainGlobals mg) (hb : s₁.heap.Ns builtinsNs mb) (hbb : ∀ x : Str, x ≠ "__name__" → mb x = bootBuiltins x) (hlim : s₁.heap.NoLimit) (hg : s₁.gens = #[])
    (ha : s₁.heap.get? a = some { cls := .type "list", data := .seq vs.toArray }) (hi : IntsAre vs ns) (hl : ns.length ≤ sizeLine) (hr : Room k callerA)
    (F : ∀ base : Heap, K.In base → base.Ns mainGlobals mg → FnOk P w K mg base CX k fa fd [x] sp) (hbind : ∀ (s : Shared) (u : Value), BindsTo s fd ⟨[u], []⟩ [(x, u)])
    (hsp : ∀ H : Hp, Only H → SqL K H a (ns.map V.int) → sp [.ref a] H (fun v _ => v = .bl true) fun _ _ _ => False)
    (hCX : ∀ H e s', CX [] H s₁ (fun _ _ _ => False) e s' → False) :
    codeAny (model P w) callerA (.call (.ref fa) ⟨[.ref a], []⟩) (fun r s' => r = .ok (.ret (.bool true)) ∧ OldK s₁.heap s'.heap ∧ s'.os = s₁.os ∧ AllBare s'.gens) s₁ := by
  have rv := vals_ints hi
  have lenV := hi.length
  have core : ∀ H : Hp, Only H → SqL K H a (ns.map V.int) → HOk P w H s₁.heap → (∀ b, H b ≠ none → b = a) → (H a ≠ none → K.lookup a = none) →
      codeAny (model P w) callerA (.call (.ref fa) ⟨[.ref a], []⟩) (fun r s' => r = .ok (.ret (.bool true)) ∧ OldK s₁.heap s'.heap ∧ s'.os = s₁.os ∧ AllBare s'.gens) s₁ := by
    intro H hO hS hok hA hK
    have base_of : ∀ {b : Addr} {o : Obj}, s₁.heap.get? b = some o → H b = none → (hidT s₁.heap H).get? b = some o := fun e n => hidT_get e n
    have noA : ∀ {b : Addr} {o : Obj} {es : Array DictEntry} {ep : Nat}, s₁.heap.get? b = some o → o.data = .dict es ep → H b = none := fun {b o es ep} e d => by
      cases q : H b with
      | none => rfl
      | some u =>
        have e' : b = a := hA b (by rw [q]; simp)
        subst e'
        rw [ha] at e; cases e
        have d' : Data.seq vs.toArray _ = Data.dict es ep := d
        cases d'
    have nsK : ∀ {b : Addr} {m : Str → Option Value}, s₁.heap.Ns b m → (hidT s₁.heap H).Ns b m := fun {b m} ⟨o, es, ep, e, d, r⟩ => ⟨o, es, ep, base_of e (noA e d), d, r⟩
    have hKb : K.In (hidT s₁.heap H) := fun b o e => base_of (KX b o e) (by
      cases q : H b with
      | none => rfl
      | some u =>
        have e' : b = a := hA b (by rw [q]; simp)
        subst e'
        rw [hK (by rw [q]; simp)] at e; cases e)
    have hM : Mod K mg (hidT s₁.heap H) := ⟨hKb, nsK hns, ⟨mb, nsK hb, hbb⟩, let ⟨mc, h1, h2⟩ := hlim; ⟨mc, nsK h1, h2⟩⟩
    have e0 : Env0 P w K mg (hidT s₁.heap H) callerA [] s₁ H := ⟨rfl, hM, fun b o e => of_hidT e, Nat.le_of_eq (hidT_size _ _), trivial, fun b hb => absurd (show b ∈ ([] : List Addr) from hb) (by simp), hok, .of_eq hg⟩
    refine codeAny_mono ((F _ hKb (nsK hns)).run callerA [] s₁ H ⟨[.ref a], []⟩ [.ref a] [.ref a] _ _ hr e0 (hbind s₁ (.ref a)) (.cons rfl .nil) (hsp H hO hS)) fun r s' h => ?_
    cases r with
    | error e => exact (hCX H e s' h).elim
    | ok fl =>
      cases fl with
      | next => exact False.elim h
      | brk => exact False.elim h
      | cont => exact False.elim h
      | ret u =>
        obtain ⟨v, H', os, bare, un, hok', r', q⟩ := h
        have q' : v = .bl true := q
        subst q'
        obtain rfl : u = Value.bool true := r'
        refine ⟨rfl, OldK.of_keep fun b o e => ?_, os, bare⟩
        cases q : H b with
        | none => exact un.keep b o e q (by intro z; exact absurd (show b ∈ ([] : List Addr) from z) (by simp)) (by simp)
        | some u =>
          rcases hO b with z | ⟨ob, xs, z⟩
          · rw [q] at z; cases z
          · have z2 := un.frzs b ob _ z
            obtain ⟨e1, _⟩ := hok b _ z
            obtain ⟨e2, _⟩ := hok' b _ z2
            rw [e] at e1; cases e1
            exact e2
  cases hk : K.lookup a with
  | some o =>
    have e := KX a o hk
    rw [ha] at e
    cases e
    refine core (fun _ => none) (fun _ => .inl rfl) (.inr ⟨_, vs.toArray, _, hk, rfl, rfl, rfl, by rw [List.size_toArray, lenV]; exact hl, by simpa using rv⟩) (fun b u z => by have z' : (none : Option HO) = some u := z; cases z') (fun b z => absurd rfl z) fun z => absurd rfl z
  | none =>
    refine core (fun b => if b = a then some (.frz { cls := .type "list", data := .seq vs.toArray } (.lst (ns.map V.int))) else none) (fun b => ?_) (.inl (.inr ⟨{ cls := .type "list", data := .seq vs.toArray }, if_pos rfl⟩)) (fun b u z => ?_) (fun b z => ?_) fun _ => hk
    · by_cases hb : b = a
      · exact .inr ⟨_, _, if_pos hb⟩
      · exact .inl (if_neg hb)
    · by_cases hb : b = a
      · have z' := (if_pos hb).symm.trans z
        cases z'
        subst hb
        exact ⟨ha, by rw [List.length_map]; exact hl, vs, _, rv, ha⟩
      · have z' := (if_neg hb).symm.trans z
        cases z'
    · by_cases hb : b = a
      · exact hb
      · exact absurd (if_neg hb) z
end L2
namespace L2
open PySem PySem.Spec PyProof.Rows
theorem walk_of {l : PySem.W.OpenLaw} {n k : Nat} {q : Program} {loose : List Str} {XP : (Str → Option Value) → Heap → Prop} {YP : World → Heap → Prop} {d : DefRec} {K : Params → PySem.W.Frag} {CX : World → CXT} {sp : World → Sp} {x : Str}
    (hn : l.most = some n) (hn2 : n ≤ sizeLine) (hdf : d.params.defaults = []) (hr : Room k callerA)
    (hY : ∀ (w : World) (h : Heap), YP w h → (K w.params).In h)
    (F : ∀ (w : World) (mg : Str → Option Value) (fa : Addr) (h : Heap), (K w.params).In h → h.Ns mainGlobals mg → mg d.name = some (.ref fa) →
      ∃ fd : FuncData, (∀ (s : Shared) (u : Value), BindsTo s fd ⟨[u], []⟩ [(x, u)]) ∧
        ∀ base : Heap, (K w.params).In base → base.Ns mainGlobals mg → FnOk l.prog w (K w.params) mg base (CX w) k fa fd [x] (sp w))
    (hsp : ∀ (w : World) (H : Hp) (a : Addr) (ns : List Int), ns.length ≤ n → Only H → SqL (K w.params) H a (ns.map V.int) → sp w [.ref a] H (fun v _ => v = .bl true) fun _ _ _ => False)
    (hCX : ∀ (w : World) (H : Hp) (s : Shared) (e : Value) (s' : Shared), CX w [] H s (fun _ _ _ => False) e s' → False) :
    PySem.W.WalkO q loose XP YP l.row.toRowW d [] (fun f vs => PySem.call f vs) := by
  refine Att.attach_call hn hdf fun w s₀ s₁ mg mb fa o pm cd doc a vs ns G Y ho hd hcd hmg hobj hints hlen hg => ?_
  have KX := hY w _ Y
  obtain ⟨fd, hb, hF⟩ := F w mg fa _ KX G.T.g hmg
  exact law_call KX G.T.g G.T.b G.T.builtins G.T.nolimit hg hobj hints (Nat.le_trans hlen hn2) hr hF hb (fun H hO hS => hsp w H a ns hlen hO hS) fun H e s' => hCX w H s₁ e s'
end L2
namespace L2
open PySem PySem.Spec PyProof.Rows
def inClass (s : Stmt) (j : Nat) : Stmt := match s with
  | .ClassDef _ _ _ body _ _ _ _ _ _ _ => body.getD j (.Pass ⟨0, 0, 0, 0⟩)
  | _ => .Pass ⟨0, 0, 0, 0⟩
def defArgs (s : Stmt) : Arguments := match s with
  | .FunctionDef _ a _ _ _ _ _ _ _ _ => a
  | _ => { posonlyargs := [], args := [], vararg := none, kwonlyargs := [], kw_defaults := [], kwarg := none, defaults := [] }
def defBody (s : Stmt) : List Stmt := match s with
  | .FunctionDef _ _ b _ _ _ _ _ _ _ => b
  | _ => []
def defScope (s : Stmt) : Scope := match s with
  | .FunctionDef _ _ _ _ _ _ sc _ _ _ => sc
  | _ => { kind := .function, names := [], isGenerator := false, isCoroutine := false }
abbrev CX0 : CXT := fun _ _ _ _ _ _ => False
abbrev E0 : XK := fun _ _ _ => False
theorem pass0 {X : Cx} : Passes CX0 X E0 := fun _ _ _ _ _ _ _ h => h.elim
structure Fun (K : PySem.W.Frag) (x qual : Str) (st : Stmt) (f : Addr) (fd : FuncData) : Prop where
  ex : ∃ (oc : Value) (od : Option Addr) (kV doc pm : Value) (an : Option Addr) (cdv ct : Value) (osl : Array (Option Value)),
    fd = PySem.W.fnOf x qual (defArgs st) (defBody st) (defScope st) .none kV doc pm an cdv ct ∧ K.lookup f = some ⟨oc, od, .func fd, osl⟩ ∧ PySem.W.codeIn K cdv qual = true
  kp : PySem.W.keepIn K (.ref f) = true
section
variable {P : Program} {w : World} {K : PySem.W.Frag} {mg : Str → Option Value} {base : Heap}
theorem Fun.ok {x qual : Str} {st : Stmt} {f : Addr} {fd : FuncData} {N ps : List Str} {k : Nat} {sp : Sp} (F : Fun K x qual st f fd) (S : FnScope N ps (defScope st)) (len : ∀ vs H Q E, sp vs H Q E → vs.length = ps.length)
    (hbody : ∀ (cdv : Value) (A : Around) (outer : List Env) (s : Shared) (H : Hp) (vs : List V) (Q : VK) (E : XK), Room k (A.deeper (envOfC qual (defScope st) s.heap.objs.size f cdv)) → sp vs H Q E →
      ∃ t, PSs (cxOf CX0 P w K mg base N qual (defScope st) f cdv A outer s H E).nox (defBody st) t ∧ t { nx := fun _ H' => Q .non H', rt := Q } (start N vs) H) : FnOk P w K mg base CX0 (k + 1) f fd ps sp := by
  obtain ⟨oc, od, kV, doc, pm, an, cdv, ct, osl, rfl, lk, hcd⟩ := F.ex
  refine fn_of lk hcd S len fun A outer s H vs Q E hr hsp => ?_
  obtain ⟨t, h, q⟩ := hbody cdv A outer s H vs Q E hr hsp
  exact ⟨t, h.nox, q⟩
theorem Fun.binds {x qual : Str} {st : Stmt} {f : Addr} {fd : FuncData} {ps : List Str} (F : Fun K x qual st f fd)
    (h : ∀ (kV doc pm : Value) (an : Option Addr) (cdv ct : Value) (us : List Value), us.length = ps.length → bindArgs (PySem.W.fnOf x qual (defArgs st) (defBody st) (defScope st) .none kV doc pm an cdv ct) ⟨us, []⟩ = pure (ps.zip us)) : Binds K fd ps [] := by
  obtain ⟨oc, od, kV, doc, pm, an, cdv, ct, osl, rfl, lk, hcd⟩ := F.ex
  exact .all (h kV doc pm an cdv ct)
theorem fun_mk {x qual : Str} {st : Stmt} {f : Addr} {oc : Value} {od an : Option Addr} {osl : Array (Option Value)} {kV doc pm cdv ct : Value} (l : K.lookup f = some ⟨oc, od, .func (PySem.W.fnOf x qual (defArgs st) (defBody st) (defScope st) .none kV doc pm an cdv ct), osl⟩)
    (c : PySem.W.codeIn K cdv qual = true) (k : PySem.W.keepIn K (.ref f) = true) : Fun K x qual st f (PySem.W.fnOf x qual (defArgs st) (defBody st) (defScope st) .none kV doc pm an cdv ct) := ⟨⟨oc, od, kV, doc, pm, an, cdv, ct, osl, rfl, l, c⟩, k⟩
end
theorem hu_of {A : Around} {k : Nat} (hr : Room k A) : A.units + 1 < cLine := Nat.lt_of_le_of_lt (Nat.add_le_add_left (by decide : 1 ≤ 64) _) hr.units
section
variable {X : Cx}
theorem pv (i : Nat) {x : Str} {pos : Pos} (hN : X.N[i]? = some x := by rfl) (hv : Vis X.env.scope x := by first | exact Or.inl rfl | exact Or.inr (Or.inl rfl) | exact Or.inr (Or.inr rfl)) (hd : (x == ("__debug__" : Str)) = false := by decide)
    (hcd : (x == ("__classdict__" : Str)) = false := by decide) : PE X (.Name x pos) (tVar i) := pe_var hN hv hd hcd
end
theorem iteF {A B : Prop} (h : B) : if false = true then A else B := by
  rw [if_neg Bool.false_ne_true]
  exact h
theorem iteT {A B : Prop} (h : A) : if true = true then A else B := by
  rw [if_pos rfl]
  exact h
theorem ite2 {c A B : Prop} [Decidable c] (h1 : c → A) (h2 : ¬ c → B) : if c then A else B := by
  by_cases h : c
  · rw [if_pos h]
    exact h1 h
  · rw [if_neg h]
    exact h2 h
def Same (H H' : Hp) : Prop := ∀ b o, H b = some o → H' b = some o
theorem Same.refl (H : Hp) : Same H H := fun _ _ h => h
theorem Same.trans {H H1 H2 : Hp} (a : Same H H1) (b : Same H1 H2) : Same H H2 := fun c o h => b c o (a c o h)
theorem Same.free {H H' : Hp} (e : Same H H') {l : Addr} (h : H' l = Option.none) : H l = Option.none := by
  cases q : H l with
  | none => rfl
  | some o =>
    rw [e l o q] at h
    cases h
theorem Same.seq {K : PySem.W.Frag} {H H' : Hp} {a : Addr} {xs : List V} (e : Same H H') (h : SqL K H a xs) : SqL K H' a xs := by
  rcases h with (h | ⟨o, h⟩) | h
  · exact .inl (.inl (e _ _ h))
  · exact .inl (.inr ⟨o, e _ _ h⟩)
  · exact .inr h
end L2
set_option Elab.async false
set_option linter.all false
set_option maxRecDepth 100000
namespace L2
open PySem PySem.Spec PyProof.Rows
def cxBlk (X : Cx) (scope : Scope) (cl : List (Str × Addr)) (C : Addr) (N : List Str) (fp : List Addr) (s : Shared) (H : Hp) : Cx :=
  { X with N := N, s₀ := s, H₀ := H, env := compEnvC scope cl C X.env, outer := X.stack, ex := fp, fn := fun _ => false, pn := [], xe := fun _ _ => False }
def PTs (X : Cx) (ifs : List Expr) (t : TT) : Prop :=
  ∀ (pins : List (Addr × Obj)) (s : Shared) (σ : St) (H : Hp) (Q : Bool → Hp → Prop), Inv X pins σ H s → t σ H Q →
    wpAny (model X.prog X.w) X.A (forIn ifs true fun c r => if r = true then do let ok ← isTrue c X.env (eval c X.env); pure (ForInStep.yield ok) else pure (ForInStep.yield r)) (TP X pins σ Q) X.xe s
def tTrue : TT := fun _ H Q => Q true H
theorem pts_nil {X : Cx} : PTs X [] tTrue := fun _ _ _ H _ I h => wpAny_tests_nil ⟨H, I, h⟩
theorem pts_one {X : Cx} {c : Expr} {t : TT} (h : PT X c t) : PTs X [c] t := fun pins s σ H Q I q => wpAny_tests_one (h pins s σ H Q I q)
theorem codeAny_compLoop_go {prog : Program} {w : World} {A : Around} {R : Result → Shared → Prop} {s : Shared} {elt target iter : Expr} {ifs : List Expr} {scope : Scope} {pos : Pos} {it acc : Value} {env : Env} (I : Nat → Shared → Prop)
    (turn : ∀ n s, I n s → wpAny (model prog w) A (pyNext it) (fun r s₁ => match r with
      | none => R (.ok .next) s₁
      | some v => wpAny (model prog w) A (letOwnedTupleGo target it v) (fun _ s₁' => wpAny (model prog w) A (assign target env v) (fun _ s₂ =>
          wpAny (model prog w) A (forIn ifs true fun c r => if r = true then do let ok ← isTrue c env (eval c env); pure (ForInStep.yield ok) else pure (ForInStep.yield r)) (fun ok s₃ =>
            if ok = true then wpAny (model prog w) A (eval elt env) (fun x s₄ =>
              wpAny (model prog w) A (call (.builtin "list.append") [acc, x]) (fun _ s₅ => ∃ m, m < n ∧ I m s₅) (fun _ _ => False) s₄) (fun _ _ => False) s₃
            else ∃ m, m < n ∧ I m s₃) (fun _ _ => False) s₂) (fun _ _ => False) s₁') (fun _ _ => False) s₁) (fun _ _ => False) s)
    (n : Nat) (h : I n s) :
    codeAny (model prog w) A (.compLoop (.ListComp elt [⟨target, iter, ifs, 0⟩] scope pos) 0 it acc env) R s := by
  have lift : ∀ {α : Type} {t : Sem α} {Q : α → Shared → Prop} {E : Value → Shared → Prop} {s : Shared}, wpAny (model prog w) A t Q (fun _ _ => False) s → wpAny (model prog w) A t Q E s :=
    fun h => wpAny_mono h (fun _ _ q => q) fun _ _ q => q.elim
  refine codeAny_loop rfl I (fun n s hI => ?_) n h
  show wpAny _ A ((compTurn (.ListComp elt [⟨target, iter, ifs, 0⟩] scope pos) 0 it acc env).onRaise (fun x => do noteFrame x env; theTreesLotGoes x)) _ _ s
  refine wpAny_noted ?_
  rw [compTurn_list]
  refine wpAny_bind (wpAny_standAt (wpAny_bind (wpAny_mono (lift (turn n s hI)) (fun r s₁ h₁ => ?_) fun _ _ h' => h')))
  cases r with
  | none => exact wpAny_pure h₁
  | some v =>
    refine wpAny_bind (wpAny_mono (lift h₁) (fun _ s₁' h₁' => ?_) fun _ _ h' => h')
    refine wpAny_bind (wpAny_mono (lift h₁') (fun _ s₂ h₂ => wpAny_bind (wpAny_mono (lift h₂) (fun ok s₃ h₃ => ?_) fun _ _ h' => h')) fun _ _ h' => h')
    cases ok with
    | false => exact wpAny_pure ⟨rfl, h₃⟩
    | true =>
      exact wpAny_bind (wpAny_bind (wpAny_mono (lift h₃) (fun x s₄ h₄ => wpAny_bind (wpAny_mono (lift h₄) (fun _ s₅ h₅ => wpAny_pure (wpAny_pure ⟨rfl, h₅⟩)) fun _ _ h' => h')) fun _ _ h' => h'))
def BsOk (XN : List Str) (xn sn : List (Str × NameKind)) : List Str → List (Option Nat) → Prop
  | [], [] => True
  | _ :: N, none :: bs => BsOk XN xn sn N bs
  | x :: N, some j :: bs => (XN[j]? = some x ∧ xn.lookup x = some .cell ∧ sn.lookup x = some .free) ∧ BsOk XN xn sn N bs
  | _, _ => False
def bst (bs : List (Option Nat)) (σ : St) : St := bs.map fun o => o.bind fun j => (σ[j]?).join
theorem BsOk.len {XN : List Str} {xn sn : List (Str × NameKind)} : ∀ {N : List Str} {bs : List (Option Nat)}, BsOk XN xn sn N bs → bs.length = N.length
  | [], [], _ => rfl
  | _ :: N, none :: bs, h => congrArg (· + 1) (BsOk.len (N := N) (bs := bs) h)
  | _ :: N, some _ :: bs, h => congrArg (· + 1) (BsOk.len (N := N) (bs := bs) h.2)
theorem BsOk.get {XN : List Str} {xn sn : List (Str × NameKind)} : ∀ {N : List Str} {bs : List (Option Nat)} {i j : Nat}, BsOk XN xn sn N bs → bs[i]? = some (some j) → ∃ x, N[i]? = some x ∧ XN[j]? = some x ∧ xn.lookup x = some .cell ∧ sn.lookup x = some .free
  | [], [], _, _, _, e => by simp at e
  | _ :: N, none :: bs, 0, _, _, e => by simp at e
  | _ :: N, none :: bs, i + 1, j, h, e => by
    obtain ⟨x, h1, h2⟩ := BsOk.get (N := N) (bs := bs) (i := i) (j := j) h (by simpa using e)
    exact ⟨x, by simpa using h1, h2⟩
  | x :: N, some k :: bs, 0, j, h, e => by
    have : k = j := by simpa using e
    subst this
    exact ⟨x, rfl, h.1⟩
  | _ :: N, some k :: bs, i + 1, j, h, e => by
    obtain ⟨x, h1, h2⟩ := BsOk.get (N := N) (bs := bs) (i := i) (j := j) h.2 (by simpa using e)
    exact ⟨x, by simpa using h1, h2⟩
theorem relabel_free {env : Env} : ∀ {names : List (Str × NameKind)} {x : Str}, names.lookup x = some .free →
    ((names.map fun (n, k) => if (k == NameKind.free && env.scope.kind == .function && env.kindOf n == some .cell) then (n, NameKind.cell) else (n, k)).lookup x = some .cell ∨
    (names.map fun (n, k) => if (k == NameKind.free && env.scope.kind == .function && env.kindOf n == some .cell) then (n, NameKind.cell) else (n, k)).lookup x = some .free)
  | [], _, h => by simp at h
  | (n, k) :: r, x, h => by
    have ih := @relabel_free env r x
    simp only [List.map_cons]
    cases hx : x == n with
    | true =>
      simp only [List.lookup_cons, hx] at h
      cases h
      by_cases hc : (NameKind.free == NameKind.free && env.scope.kind == .function && env.kindOf n == some .cell) = true
      · rw [if_pos hc]; simp only [List.lookup_cons, hx]; simp
      · rw [if_neg hc]; simp only [List.lookup_cons, hx]; simp
    | false =>
      simp only [List.lookup_cons, hx] at h
      by_cases hc : (k == NameKind.free && env.scope.kind == .function && env.kindOf n == some .cell) = true
      · rw [if_pos hc]; simp only [List.lookup_cons, hx]; exact ih h
      · rw [if_neg hc]; simp only [List.lookup_cons, hx]; exact ih h
theorem relabel_back {env : Env} : ∀ {names : List (Str × NameKind)} {x : Str}, (∀ y ∈ names, y.2 ≠ .cell) →
    ((names.map fun (n, k) => if (k == NameKind.free && env.scope.kind == .function && env.kindOf n == some .cell) then (n, NameKind.cell) else (n, k)).lookup x = some .cell ∨
    (names.map fun (n, k) => if (k == NameKind.free && env.scope.kind == .function && env.kindOf n == some .cell) then (n, NameKind.cell) else (n, k)).lookup x = some .free) → names.lookup x = some .free
  | [], _, _, h => by simp at h
  | (n, k) :: r, x, hn, h => by
    have ih := @relabel_back env r x fun y hy => hn y (.tail _ hy)
    simp only [List.map_cons] at h
    cases hx : x == n with
    | true =>
      by_cases hc : (k == NameKind.free && env.scope.kind == .function && env.kindOf n == some .cell) = true
      · simp only [Bool.and_eq_true, beq_iff_eq] at hc
        simp only [List.lookup_cons, hx]
        rw [hc.1.1]
      · rw [if_neg hc] at h
        simp only [List.lookup_cons, hx] at h ⊢
        rcases h with h | h
        · exact absurd (Option.some.inj h) (hn (n, k) (.head _))
        · exact h
    | false =>
      simp only [List.lookup_cons, hx]
      by_cases hc : (k == NameKind.free && env.scope.kind == .function && env.kindOf n == some .cell) = true
      · rw [if_pos hc] at h; simp only [List.lookup_cons, hx] at h; exact ih h
      · rw [if_neg hc] at h; simp only [List.lookup_cons, hx] at h; exact ih h
structure Blk (X : Cx) (scope : Scope) (cl : List (Str × Addr)) (N : List Str) (bs : List (Option Nat)) : Prop where
  clos : closureFor scope X.env = pure cl
  kind : scope.kind = .function
  cell : ∀ y ∈ scope.names, y.2 ≠ .cell
  names : ∀ y ∈ scope.names, y.2 = .local → scope.names.lookup y.1 = some .local
  cl1 : ∀ p ∈ cl, X.env.cells.lookup p.1 = some p.2
  cl2 : ∀ y ∈ scope.names, y.2 = .free → (cl.lookup y.1).isSome = true
  bs : BsOk X.N X.env.scope.names scope.names N bs
section
variable {X : Cx} {scope : Scope} {cl : List (Str × Addr)} {N : List Str} {bs : List (Option Nat)} {pins : List (Addr × Obj)} {σ : St} {H : Hp} {s : Shared} {fp : List Addr} {C : Addr}
theorem Blk.c1 (B : Blk X scope cl N bs) {x : Str} {c : Addr} (h : cl.lookup x = some c) : X.env.cells.lookup x = some c := B.cl1 (x, c) (PySem.mem_of_lookup h)
theorem Blk.c2 (B : Blk X scope cl N bs) {x : Str} (h : (compEnvC scope cl C X.env).kindOf x = some .cell ∨ (compEnvC scope cl C X.env).kindOf x = some .free) : ∃ c, cl.lookup x = some c := by
  have h1 := relabel_back (env := X.env) B.cell h
  exact Option.isSome_iff_exists.mp (B.cl2 (x, .free) (PySem.mem_of_lookup h1) rfl)
theorem Blk.ok (B : Blk X scope cl N bs) (I : Inv X pins σ H s) (hf : ∀ b ∈ fp, FpOk X pins H b) (ho : ∀ b ∈ fp, ∃ o, s.heap.get? b = some o ∧ ∀ v, o.data ≠ .cell v) (hC : s.heap.objs.size ≤ C) : (cxBlk X scope cl C N fp s H).Ok := by
  refine ⟨I.ok.mod, B.kind, I.ok.glob, I.ok.blt, hC, fun x y c h1 h2 => I.ok.inj x y c (B.c1 h1) (B.c1 h2), fun x h => B.c2 h, fun x c h _ => (Bool.false_ne_true h).elim, I.ok.hd, I.ok.frames, .inl rfl, fun b hb => ?_, I.bs, Nat.le_trans I.ok.bsz I.sz, fun b o e hb => ?_, fun b hb hb' => ?_, I.stack, I.stkFree⟩
  · obtain ⟨o, e, _⟩ := ho b hb
    obtain ⟨_, _, _, _, f4, _⟩ := hf b hb
    exact ⟨Nat.ne_of_lt (Nat.lt_of_lt_of_le (Heap.lt_size e) hC), fun x c h => f4 x c (B.c1 h)⟩
  · obtain ⟨_, _, _, f3, _⟩ := hf b hb
    rcases f3 with z | z
    · exact I.ok.noex b o e z
    · exact absurd (Nat.lt_of_lt_of_le (Heap.lt_size e) (Nat.le_trans I.ok.bsz z)) (Nat.lt_irrefl _)
  · obtain ⟨_, f1, f2, _⟩ := hf b hb
    rcases List.mem_cons.mp (I.stkSub b hb') with z | z
    · exact f1 z
    · exact f2 z
theorem Blk.inv (B : Blk X scope cl N bs) (I : Inv X pins σ H s) (hf : ∀ b ∈ fp, FpOk X pins H b) (ho : ∀ b ∈ fp, ∃ o, s.heap.get? b = some o ∧ ∀ v, o.data ≠ .cell v) (hC : s.heap.objs.size ≤ C) {h' : Heap} {t' : Nat}
    (hk : ∀ b o, s.heap.get? b = some o → h'.get? b = some o) {m : Str → Option Value} (hn : h'.Ns C m) {D : Addr} {oD : Obj} (hD : h'.get? D = some oD) (hD1 : s.heap.objs.size ≤ D) (hDC : D ≠ C) (hDd : ∀ v, oD.data ≠ .cell v) :
    Inv (cxBlk X scope cl C N fp s H) [(D, oD)] (bst bs σ) H { s with heap := h', toks := t' } := by
  have ok : (cxBlk X scope cl C N fp s H).Ok := B.ok I hf ho hC
  refine ⟨ok, rfl, I.bare, Un.kept hk, ⟨m, hn, fun i x v e1 e2 e3 => ?_⟩, fun x c h => ?_, I.hok.fresh hC, fun x c h => I.freeC x c (B.c1 h), fun p hp => ?_, I.hok.kept hk, ?_⟩
  · have e2' : (bst bs σ)[i]? = some (some v) := e2
    unfold bst at e2'
    rw [List.getElem?_map] at e2'
    cases q : bs[i]? with
    | none => rw [q] at e2'; cases e2'
    | some o =>
      rw [q] at e2'
      cases o with
      | none => cases e2'
      | some j =>
        obtain ⟨y, y1, y2, y3, y4⟩ := B.bs.get q
        have e1' : N[i]? = some x := e1
        rw [e1'] at y1
        cases y1
        have e4 : σ[j]? = some (some v) := by
          have z : (σ[j]?).join = some v := Option.some.inj e2'
          cases w : σ[j]? with
          | none => rw [w] at z; cases z
          | some o => rw [w] at z; rw [show o = some v from z]
        obtain ⟨mx, hmx, lx⟩ := I.loc
        obtain ⟨u, r, l⟩ := lx j x v y2 e4 (.inr (.inl y3))
        refine ⟨u, r, .inr ⟨relabel_free (env := X.env) y4, ?_⟩⟩
        rcases l with ⟨l1, _⟩ | ⟨_, c, l2, l3⟩
        · have l1' : X.env.scope.names.lookup x = some .local := l1
          rw [y3] at l1'
          cases l1'
        · obtain ⟨c', h'⟩ := Option.isSome_iff_exists.mp (B.cl2 (x, .free) (PySem.mem_of_lookup y4) rfl)
          have h2 := B.c1 h'
          rw [l2] at h2
          cases h2
          obtain ⟨oc, hoc, hd⟩ := l3
          exact ⟨c, h', oc, hk _ _ hoc, hd⟩
  · obtain ⟨v, oc, hoc, hd⟩ := I.cell x c (B.c1 h)
    exact ⟨v, oc, hk _ _ hoc, hd⟩
  · have e : p = (D, oD) := by simpa [cxBlk] using hp
    subst e
    refine ⟨hD, I.hok.fresh hD1, hDC, fun z => ?_, hDd⟩
    have z' : D ∈ frs X.stack := z
    rcases List.mem_cons.mp (I.stkSub D z') with q | q
    · exact Nat.lt_irrefl _ (Nat.lt_of_lt_of_le I.lt (by rw [← q]; exact hD1))
    · exact I.nofs hD1 q
  · show (bst bs σ).length = N.length
    unfold bst
    rw [List.length_map]
    exact B.bs.len
end
def tLC (bs : List (Option Nat)) (wi : TI) (g : TG) (tt : TT) (te : TE) : TE := fun σ H Q => wi σ H fun J H1 => ∃ W : Nat → Nat → List V → St → Hp → Prop, (∃ m, W 0 m [] (bst bs σ) H1) ∧ ∀ i m ys σ' H', W i m ys σ' H' →
  (J.stop i H' ∧ ys.length ≤ sizeLine ∧ ∀ p, H' p = none → Q (.ref p) (upd H' p (.lst ys))) ∨
  (J.go i H' ∧ ys.length < sizeLine ∧ ∃ N : List V → St → Hp → Prop, (∀ zs σ2 H2, N zs σ2 H2 → ∃ m', m' < m ∧ W (i + 1) m' zs σ2 H2) ∧ ∀ x H2, J.yld i H' x H2 → g x σ' H2 fun σ3 H3 => tt σ3 H3 fun b H4 =>
    if b = true then te σ3 H4 fun v H5 => N (ys ++ [v]) σ3 H5 else N ys σ3 H4)
theorem pe_lc {X : Cx} {scope : Scope} {cl : List (Str × Addr)} {N : List Str} {bs : List (Option Nat)} {tg iter elt : Expr} {ifs : List Expr} {pos : Pos} {wi : TI} {g : TG} {tt : TT} {te : TE} (B : Blk X scope cl N bs) (hc : X.calm = true)
    (hi : PI X tg iter wi) (hg : ∀ C fp s H, PG (cxBlk X scope cl C N fp s H) tg g) (ht : ∀ C fp s H, PTs (cxBlk X scope cl C N fp s H) ifs tt) (he : ∀ C fp s H, PE (cxBlk X scope cl C N fp s H) elt te)
    (hs : ∀ x, foldedSetIterable iter X.env x = pure x := by intro _; rfl) :
    PE X (.ListComp elt [⟨tg, iter, ifs, 0⟩] scope pos) (tLC bs wi g tt te) := by
  intro pins s σ H Q I h
  rw [eval_ListComp]
  refine wpAny_comprehension_free (use := none) rfl hs B.clos B.kind B.names (thn (hi pins s σ H _ I h) fun v s1 h1 => thn h1 fun itv s2 h2 => ?_)
  obtain ⟨it, fp, tn, J, H2, rfl, I2, T, st2, f2, W, ⟨m0, w0⟩, turn⟩ := h2
  refine wpAny_newObj_type (wpAny_newFunctionEnv B.cell (by intro y hy; simp at hy) (fun h₁ hns₁ hsb₁ => ?_) B.kind)
  dsimp only at hns₁ hsb₁ ⊢
  generalize hG : s2.heap.push { cls := .type "list", dict := none, data := .seq ([] : List Value).toArray } = G at hns₁ hsb₁ ⊢
  have hC : G.objs.size = s2.heap.objs.size + 1 := by rw [← hG, Heap.size_push]
  have hDC : s2.heap.objs.size ≠ G.objs.size := by rw [hC]; exact Nat.ne_of_lt (Nat.lt_succ_self _)
  have hCle : s2.heap.objs.size ≤ G.objs.size := by rw [hC]; exact Nat.le_succ _
  have old : ∀ b o, s2.heap.get? b = some o → h₁.get? b = some o := fun b o e => hsb₁.extBut b o (by rw [hC]; exact Nat.ne_of_lt (Nat.lt_succ_of_lt (Heap.lt_size e))) (Heap.get?_push_of_some _ (hG ▸ Heap.get?_push_of_some _ e))
  have hacc : h₁.get? s2.heap.objs.size = some { cls := .type "list", data := .seq ([] : List Value).toArray 0 } := hsb₁.extBut _ _ hDC (Heap.get?_push_of_some _ (hG ▸ Heap.get?_push_size _ rfl))
  have stat : ∀ {D : Addr} {o : Obj} {H' : Hp}, s2.heap.objs.size ≤ D → (∀ b ∈ fp, H' b = none) → ∀ b ∈ fp, FpOk (cxBlk X scope cl G.objs.size N fp s2 H2) [(D, o)] H' b := fun {D o H'} hD hn b hb => by
    obtain ⟨ob, eb, _⟩ := T.obj _ _ st2 b hb
    obtain ⟨_, f1, f3, f4, f5, _⟩ := f2 b hb
    have ok := B.ok I2 f2 (T.obj _ _ st2) (C := G.objs.size) hCle
    refine ⟨hn b hb, (ok.exf b hb).1, ok.exfs b hb, .inl hb, (ok.exf b hb).2, fun p hp => ?_⟩
    have e : p = (D, o) := by simpa [cxBlk] using hp
    subst e
    exact Nat.ne_of_gt (Nat.lt_of_lt_of_le (Heap.lt_size eb) hD)
  have loop : ∀ s₃ : Shared, s₃ = { s2 with heap := h₁, toks := s2.toks + ([] : List (Str × Value)).length } →
      codeAny (model X.prog X.w) X.A (.compLoop (.ListComp elt [⟨tg, iter, ifs, 0⟩] scope pos) 0 (.ref it) (.ref s2.heap.objs.size) (compEnvC scope cl G.objs.size X.env))
        (compPost (model X.prog X.w) X.A X.xe none (EP X pins σ Q) (.ref s2.heap.objs.size) G.objs.size) s₃ := by
    rintro s₃ rfl
    refine codeAny_compLoop_go (fun n s' => ∃ i ys its k σ' H', Inv (cxBlk X scope cl G.objs.size N fp s2 H2) [(s2.heap.objs.size, { cls := .type "list", data := .seq (List.toArray its) k })] σ' H' s' ∧ Vals ys its ∧ tn i s'.heap ∧ (∀ b ∈ fp, H' b = none) ∧ W i n ys σ' H') ?_ m0
      ⟨0, [], [], 0, bst bs σ, H2, B.inv I2 f2 (T.obj _ _ st2) hCle old hns₁ hacc (Nat.le_refl _) hDC (fun v z => nomatch z), .nil, T.keep _ _ _ st2 fun b _ o e => old b o e, fun b hb => (f2 b hb).1, w0⟩
    rintro n s3 ⟨i, ys, its, k, σ3, H3, I3, rv, st3, fr3, w3⟩
    have pD := I3.pin _ (List.mem_append_right _ (.head _))
    rcases turn i n ys σ3 H3 w3 with ⟨stop, hz, qn⟩ | ⟨go, hz, NN, hNN, step⟩
    · refine thn (T.done (cxBlk X scope cl G.objs.size N fp s2 H2) rfl rfl rfl hc i _ s3 σ3 H3 (fun _ _ => False) I3 (stat (Nat.le_refl _) fr3) st3 stop) fun r s4 ⟨hr, I4⟩ => ?_
      subst hr
      have pD4 := I4.pin _ (List.mem_append_right _ (.head _))
      obtain ⟨m4, hn4, _⟩ := I4.loc
      refine ⟨m4, hn4, fun h5 sb5 => ?_⟩
      have hD5 : h5.get? s2.heap.objs.size = some { cls := .type "list", data := .seq (List.toArray its) k } := sb5.extBut _ _ hDC pD4.1
      have k5 : ∀ b o, b ≠ G.objs.size → s4.heap.get? b = some o → h5.get? b = some o := fun b o hb e => sb5.extBut b o hb e
      have hC4 : H3 G.objs.size = none := I4.free
      have hok4 : HOk X.prog X.w H3 s4.heap := I4.hok
      have hok5 : HOk X.prog X.w (upd H3 s2.heap.objs.size (.lst ys)) h5 := fun b u e => by
        by_cases hb : b = s2.heap.objs.size
        · subst hb
          rw [upd_same] at e
          cases e
          exact ⟨hz, its, k, rv, hD5⟩
        · rw [upd_ne hb] at e
          have nC : ∀ c u', H3 c = some u' → c ≠ G.objs.size := fun c u' q z => by rw [z, hC4] at q; cases q
          have nD : ∀ c u', H3 c = some u' → c ≠ s2.heap.objs.size := fun c u' q z => by rw [z, pD4.2.1] at q; cases q
          refine (hok4 b u e).stay (fun c v hc' q => k5 c v ?_ q) (fun c q => by rw [upd_ne (nD c _ q)]; exact q) fun c xs q => by rw [upd_ne (nD c _ q)]; exact q
          rcases hc' with z | z
          · rw [z]; exact nC b u e
          · exact nC c _ z
      have un4 : Un (frs X.stack) fp H2 H3 s2.heap s4.heap := I4.base
      have neC : ∀ b o, s2.heap.get? b = some o → b ≠ G.objs.size := fun b o e => Nat.ne_of_lt (Nat.lt_of_lt_of_le (Heap.lt_size e) hCle)
      have neD : ∀ b o, s2.heap.get? b = some o → b ≠ s2.heap.objs.size := fun b o e => Nat.ne_of_lt (Heap.lt_size e)
      have un5 : Un (frs X.stack) fp H2 (upd H3 s2.heap.objs.size (.lst ys)) s2.heap h5 := {
        keep := fun b o e n hb hx => k5 b o (neC b o e) (un4.keep b o e n hb hx)
        slot := fun b o e n hb hx => let ⟨sl, q⟩ := un4.slot b o e n hb hx; ⟨sl, k5 b _ (neC b o e) q⟩
        free := fun b o e n hx => by rw [upd_ne (neD b o e)]; exact un4.free b o e n hx
        there := fun b o e hx => let ⟨o', q⟩ := un4.there b o e hx; ⟨o', k5 b _ (neC b o e) q⟩
        tups := fun b xs e => by rw [upd_ne (ne_of_none e (I2.hok.fresh (Nat.le_refl _)))]; exact un4.tups b xs e
        frzs := fun b o u e => by rw [upd_ne (ne_of_none e (I2.hok.fresh (Nat.le_refl _)))]; exact un4.frzs b o u e
        tbls := fun b ps e => by rw [upd_ne (ne_of_none e (I2.hok.fresh (Nat.le_refl _)))]; exact un4.tbls b ps e }
      refine ⟨.ref s2.heap.objs.size, _, I2.call' (s' := { s4 with heap := h5 }) ((show s4.os = s2.os from I4.os)) un5 hok5 I4.bare (fun b hb => ?_), rfl, qn _ pD4.2.1⟩
      obtain ⟨_, f1, f3, f4, f5, f6⟩ := f2 b hb
      exact ⟨f4, f1, f5, f6⟩
    · refine thn (T.item (cxBlk X scope cl G.objs.size N fp s2 H2) rfl rfl rfl hc i _ s3 σ3 H3 (fun _ _ => False) I3 (stat (Nat.le_refl _) fr3) st3 go) fun r s4 ⟨u, hr, h4⟩ => ?_
      subst hr
      refine thn h4 fun _ s5 ⟨x, H5, I5, r5, y5, st5, fr5⟩ => ?_
      have I5' := I5.pinned (stat (Nat.le_refl _) fr5) (T.obj _ _ st5)
      refine thn (hg _ _ _ _ _ s5 σ3 H5 x u _ I5' r5 (step x H5 y5)) fun _ s6 ⟨σ6, H6, I6, q6⟩ => ?_
      refine thn (ht _ _ _ _ _ s6 σ6 H6 _ I6 q6) fun ok s7 ⟨H7, I7, q7⟩ => ?_
      have back : ∀ {σ8 : St} {H8 : Hp} {s8 : Shared} {pl : List (Addr × Obj)}, Inv (cxBlk X scope cl G.objs.size N fp s2 H2) (pl ++ pinsAt fp s5.heap) σ8 H8 s8 → tn (i + 1) s8.heap ∧ ∀ b ∈ fp, H8 b = none := fun {σ8 H8 s8 pl} I8 =>
        ⟨T.keep _ _ _ st5 fun b hb o e => (I8.pin (b, o) (List.mem_append_right _ (List.mem_append_right _ (mem_pinsAt hb e)))).1, fun b hb => by
          obtain ⟨o, e, d⟩ := T.obj _ _ st5 b hb
          exact (I8.pin (b, o) (List.mem_append_right _ (List.mem_append_right _ (mem_pinsAt hb e)))).2.1⟩
      cases ok with
      | false =>
        rw [if_neg Bool.false_ne_true] at q7 ⊢
        obtain ⟨m', hm, w7⟩ := hNN _ _ _ q7
        exact ⟨m', hm, i + 1, ys, its, k, σ6, H7, I7.unpinned, rv, (back I7).1, (back I7).2, w7⟩
      | true =>
        rw [if_pos rfl] at q7 ⊢
        refine thn (he _ _ _ _ _ s7 σ6 H7 _ I7 q7) fun y s8 ⟨v8, H8, I8, r8, q8⟩ => ?_
        obtain ⟨m', hm, w8⟩ := hNN _ _ _ q8
        have pD8 := I8.pin _ (List.mem_append_right _ (List.mem_append_left _ (.head _)))
        have hl := rv.length
        refine wpAny_list_append_plain ⟨k, pD8.1⟩ (fun h9 pl9 sb9 => ?_) (by rw [List.size_toArray]; omega)
        obtain ⟨k9, e9⟩ := pl9
        have e9' : h9.get? s2.heap.objs.size = some { cls := .type "list", data := .seq (List.toArray (its ++ [y])) k9 } := by rw [e9]; simp
        have I8' : Inv (cxBlk X scope cl G.objs.size N fp s2 H2) (pinsAt fp s5.heap) σ6 H8 s8 := I8.pins_of fun p hp => I8.pin p (List.mem_append_right _ (List.mem_append_right _ hp))
        have I9 : Inv (cxBlk X scope cl G.objs.size N fp s2 H2) (pinsAt fp s5.heap) σ6 H8 { s8 with heap := h9 } := I8'.turned (it := s2.heap.objs.size) (t' := s8.toks) (fun b o hb e => sb9.extBut b o hb e) pD8.2.1 pD8.2.2.1 (.inr (Nat.le_refl _))
          (fun x c e z => by
            obtain ⟨vc, oc, hoc, hd⟩ := I8.cell x c e
            rw [z, pD8.1] at hoc
            cases hoc
            cases hd)
          fun p hp z => by
            have hp' : p ∈ pinsAt fp s5.heap := by simpa [cxBlk] using hp
            obtain ⟨q1, q2⟩ := of_pinsAt hp'
            obtain ⟨ob, eb, _⟩ := T.obj _ _ st2 p.1 q1
            exact Nat.lt_irrefl _ (by have := Heap.lt_size eb; rw [z] at this; exact this)
        have hk9 : ∀ b ∈ fp, ∀ o, s8.heap.get? b = some o → h9.get? b = some o := fun b hb o e => sb9.extBut b o (fun z => by
          obtain ⟨ob, eb, _⟩ := T.obj _ _ st2 b hb
          exact Nat.lt_irrefl _ (by have := Heap.lt_size eb; rw [z] at this; exact this)) e
        refine ⟨m', hm, i + 1, ys ++ [v8], its ++ [y], k9, σ6, H8, I9.pins_of fun p hp => ?_, rv.append (.cons r8 .nil), T.keep _ _ _ (back I8).1 hk9, (back I8).2, w8⟩
        have e : p = (s2.heap.objs.size, { cls := .type "list", data := .seq (List.toArray (its ++ [y])) k9 }) := by simpa using hp
        subst e
        exact ⟨e9', pD8.2.1, pD8.2.2.1, pD8.2.2.2.1, fun v z => nomatch z⟩
  exact codeAny_compStart_list (loop _ rfl) (T.self _ 0 _ _ _ (T.keep _ _ _ st2 fun b _ o e => old b o e) (loop _ rfl))
end L2
set_option Elab.async false
set_option linter.all false
set_option maxRecDepth 100000
namespace L2
open PySem PySem.Spec PyProof.Rows
structure Lam (x : Str) (fr : List Str) (params : Arguments) (scope : Scope) : Prop where
  kind : scope.kind = .function
  co : scope.isCoroutine = false
  gen : scope.isGenerator = false
  cell : ∀ y ∈ scope.names, y.2 ≠ .cell
  par : scope.names.lookup x = some .local
  bind : ∀ (nm qual : Str) (body : Expr) (cl : List (Str × Addr)) (pm cdv ct u : Value), bindArgs (PySem.W.kla_fn nm qual params body scope cl pm cdv ct) ⟨[u], []⟩ = pure [(x, u)]
  free : ∀ y ∈ fr, scope.names.lookup y = some .free
def TabE (qual : Str) (c' : Addr) : HO := .ext fun h => h.CodeRec (.ref c') qual
def TabI (P : Addr) (pos : Pos) (qual : Str) (H : Hp) : Prop :=
  H P = some (.tbl #[]) ∨ ∃ c', H P = some (.tbl #[rawInt pos.line, rawInt pos.col, .ref c']) ∧ H c' = some (TabE qual c')
structure Gr (P : Addr) (pos : Pos) (qual : Str) (H H' : Hp) : Prop where
  keep : ∀ b o, H b = some o → b ≠ P → H' b = some o
  tab : TabI P pos qual H'
theorem Gr.trans {P : Addr} {pos : Pos} {qual : Str} {H H1 H2 : Hp} (a : Gr P pos qual H H1) (b : Gr P pos qual H1 H2) : Gr P pos qual H H2 := ⟨fun c o e n => b.keep c o (a.keep c o e n) n, b.tab⟩
end L2
set_option Elab.async false
set_option linter.all false
set_option maxRecDepth 100000
set_option maxHeartbeats 4000000
set_option Elab.async false
set_option linter.all false
set_option maxRecDepth 100000
set_option maxHeartbeats 4000000
set_option Elab.async false
set_option linter.all false
set_option maxRecDepth 100000
set_option maxHeartbeats 4000000
namespace L2
open PySem PySem.Spec PyProof.Rows
section
variable {X : Cx}
theorem call_isinst : CallR X (.builtin "isinstance") (fun xs H Q => ∃ x n t b, xs = [x, .ty n] ∧ TyOf X.K H x t ∧ PySem.W.kitOne X.K t (.type n) = some b ∧ Q (.bl b) H) := by
  intro pins s σ H xs us Q I r h
  obtain ⟨x, n, t, b, rfl, ty, e, q⟩ := h
  obtain ⟨u, w', rfl, rx, ry⟩ := vals2 r
  cases (show w' = Value.type n from ry)
  exact isinst_ok I rx ty e fun tk => ⟨.bl b, H, I.tok tk, rfl, q⟩
theorem bools_of {bs : List Bool} : ∀ {us : List Value}, Vals (bs.map V.bl) us → PyProof.Rows.LSm.BoolsAre us bs := by
  induction bs with
  | nil => intro us r; cases r; exact .nil
  | cons b bs ih =>
    intro us r
    cases r with
    | cons h t =>
      cases (show _ = Value.bool b from h)
      exact .cons b (ih t)
theorem Inv.big {pins : List (Addr × Obj)} {σ : St} {H : Hp} {s : Shared} (I : Inv X pins σ H s) : sysModules < s.heap.objs.size := by
  have h : mainGlobals < s.heap.objs.size := (I.mod.glob.keeps I.bk).lt
  exact Nat.lt_trans (by decide) h
theorem dk_empty {P : Program} {w : World} {H : Hp} (h : Heap) (hb : sysModules < h.objs.size) : ObjOk P w H (h.push { cls := .type "dict", data := .dict #[] }) h.objs.size (.dK []) :=
  ⟨Nat.zero_le _, beq_eq_false_iff_ne.mpr (Ne.symm (Nat.ne_of_lt hb)), [], .nil, Heap.DictOf.new h⟩
def tDNewK : TE := fun _ H Q => ∀ p, H p = none → Q (.ref p) (upd H p (.dK []))
theorem pe_dnewK {pos : Pos} : PE X (.Dict [] [] pos) tDNewK := fun pins s σ H Q I h =>
  wpAny_Dict_empty ⟨.ref s.heap.objs.size, _, I.laid (a := s.heap.objs.size) (o := .dK []) (t' := s.toks) (fun _ _ q => Heap.get?_push_of_some _ q) (Nat.le_refl _) (dk_empty s.heap I.big), rfl, h _ (I.hok.fresh (Nat.le_refl _))⟩
theorem call_all (hc : X.calm = true) : CallR X (.builtin "all") (fun xs H Q => ∃ p, ∃ bs : List Bool, xs = [.ref p] ∧ SqL X.K H p (bs.map V.bl) ∧ Q (.bl (bs.all id)) H) := by
  intro pins s σ H xs us Q I r h
  obtain ⟨p, bs, rfl, hp, q⟩ := h
  obtain ⟨u, rfl, rx⟩ := vals1 r
  cases (show u = Value.ref p from rx)
  obtain ⟨vs, rv, pl, hz⟩ := I.list hp
  have hb := bools_of rv
  have hl := pl.isList
  have hlt : p < s.heap.objs.size := by obtain ⟨_, e, _⟩ := hl; exact Heap.lt_size e
  refine call_all_walk (wpAny_pyIter_list hl ?_)
  refine ⟨s.heap.objs.size, [s.heap.objs.size, p], [s.heap.objs.size], vs.toArray.size, _, _, fun i => (bs[i]?).getD true, rfl, Walks.list (A := X.A.in1) (I.ok.hd hc) _ p (Nat.ne_of_lt hlt) vs.toArray,
    ⟨⟨_, Heap.get?_push_size _ rfl, rfl, rfl⟩, hl.push _⟩, fun i v s' Q' E' hP hQ => ?_, fun h' tk hk => ?_⟩
  · obtain ⟨b, e, rfl⟩ := hb.get i v (by simpa using hP)
    simp only [e, Option.getD_some] at hQ
    exact wpAny_truthy_bool hQ
  · have hlen : vs.length = bs.length := by have := rv.length; simpa using this.symm
    have e : ((List.range vs.toArray.size).all fun i => (bs[i]?).getD true) = bs.all id := by
      rw [List.size_toArray, hlen, Bool.eq_iff_iff, List.all_eq_true, List.all_eq_true]
      constructor
      · intro h b hb'
        obtain ⟨i, hi, rfl⟩ := List.getElem_of_mem hb'
        have := h i (List.mem_range.mpr hi)
        simpa [List.getElem?_eq_getElem hi] using this
      · intro h i hi
        have hi' := List.mem_range.mp hi
        simp only [List.getElem?_eq_getElem hi', Option.getD_some]
        exact h _ (List.getElem_mem hi')
    rw [e]
    refine ⟨.bl _, H, I.kept (t' := tk) fun b o e2 => hk b o (fun hm => ?_) (Heap.get?_push_of_some _ e2), rfl, q⟩
    rw [List.mem_singleton.mp hm] at e2
    exact Nat.lt_irrefl _ (Heap.lt_size e2)
end
end L2
set_option Elab.async false
set_option linter.all false
set_option maxRecDepth 100000
set_option maxHeartbeats 4000000
namespace L2
open PySem PySem.Spec PyProof.Rows
theorem same_add {H : Hp} {d : Addr} {o : HO} (h : H d = Option.none) : Same H (upd H d o) := fun b u e => by rw [upd_ne (ne_of_none e h)]; exact e
theorem le1000 {n : Nat} (h : Nat.ble n 1000 = true) : n ≤ sizeLine := by
  have := Nat.le_of_ble_eq_true h
  rw [sizeLine_eq]; omega
theorem leMil {n : Nat} (h : n ≤ 100000) : n ≤ sizeLine := by rw [sizeLine_eq]; omega
def plainE : Expr → Bool
  | .Starred _ _ => false
  | _ => true
theorem star_cons {e : Expr} {es : List Expr} {env : Env} (h : plainE e = true) : starEach (e :: es) env = (false, eval e env) :: starEach es env := by
  cases e <;> first | rfl | cases h
theorem star_any {env : Env} {pos : Pos} : ∀ {es : List Expr}, es.all plainE = true → (backTo pos (starEach es env)).any (·.1) = false
  | [], _ => rfl
  | e :: es, h => by
    have h1 : plainE e = true ∧ es.all plainE = true := by simpa [List.all_cons, Bool.and_eq_true] using h
    rw [star_cons h1.1]
    have ih := star_any (env := env) (pos := pos) h1.2
    unfold backTo at ih ⊢
    rw [List.map_cons, List.any_cons, ih]
    rfl
theorem pa_c {X : Cx} {e : Expr} {es : List Expr} {te : TE} {t : TA} (ha : PE X e te) (hr : PA X es t) (hs : plainE e = true := by rfl) : PA X (e :: es) (tCons te t) := pa_cons ha hr (star_cons hs)
structure FnE (P : Program) (w : World) (K : PySem.W.Frag) (mg : Str → Option Value) (base : Heap) (x : Str) (ps : List Str) (k : Nat) (sp : Sp) : Prop where
  ex : ∃ f fd, FnOk P w K mg base CX0 k f fd ps sp ∧ mg x = some (.ref f) ∧ PySem.W.keepIn K (.ref f) = true ∧ Binds K fd ps []
theorem FnE.mono {P : Program} {w : World} {K : PySem.W.Frag} {mg : Str → Option Value} {base : Heap} {x : Str} {ps : List Str} {j k : Nat} {sp : Sp} (F : FnE P w K mg base x ps j sp) (h : j ≤ k) : FnE P w K mg base x ps k sp :=
  let ⟨f, fd, a, b⟩ := F.ex; ⟨f, fd, a.mono h, b⟩
theorem pe_fn {X : Cx} {x : Str} {ps : List Str} {k : Nat} {sp : Sp} {e : Expr} {es : List Expr} {t : TA} {p pos : Pos} (F : FnE X.prog X.w X.K X.mg X.base x ps k sp) (hr : Room k X.A) (ha : PA X (e :: es) t) (hg : Gl X x := by rfl)
    (hdb : (x == ("__debug__" : Str)) = false := by decide) (he : starEach (e :: es) X.env = (false, eval e X.env) :: starEach es X.env := by rfl) (hpl : (backTo pos (starEach es X.env)).any (·.1) = false := by rfl) :
    PE X (.Call (.Name x p) (e :: es) [] pos) (tCall sp [] E0 t) :=
  let ⟨_, _, a, b, c, d⟩ := F.ex; pe_call a hr hg b c d .nil pass0 ha hdb he hpl
theorem pe_fc {X : Cx} {x : Str} {ps : List Str} {k : Nat} {sp : Sp} {e : Expr} {es : List Expr} {t : TA} {p pos : Pos} (F : FnE X.prog X.w X.K X.mg X.base x ps k sp) (hr : Room k X.A) (ha : PA X (e :: es) t) (hg : Gl X x := by rfl)
    (hdb : (x == ("__debug__" : Str)) = false := by decide) (he : plainE e = true := by rfl) (hpl : es.all plainE = true := by rfl) : PE X (.Call (.Name x p) (e :: es) [] pos) (tCall sp [] E0 t) :=
  pe_fn F hr ha hg hdb (star_cons he) (star_any hpl)
def tTupS (t : TA) : TE := fun σ H Q => t σ H fun xs H1 => Nat.ble xs.length 1000 = true ∧ ∀ p H', Same H1 H' → H' p = some (.tup xs) → Q (.ref p) H'
def tLstS (t : TA) : TE := fun σ H Q => t σ H fun xs H1 => Nat.ble xs.length 1000 = true ∧ ∀ p H', Same H1 H' → H' p = some (.lst xs) → Q (.ref p) H'
def tDNewS : TE := fun _ H Q => ∀ p H', Same H H' → H' p = some (.dK []) → Q (.ref p) H'
section
variable {X : Cx} {e : Expr} {es : List Expr} {te : TE} {t : TA} {pos : Pos}
theorem OpR.weak {f : Value → Value → Sem Value} {r r' : R2} (h : OpR X f r) (k : ∀ x y H Q, r' x y H Q → r x y H Q) : OpR X f r' := fun pins s σ H x y v u Q I rx ry q => h pins s σ H x y v u Q I rx ry (k _ _ _ _ q)
theorem CallR.weak {f : Value} {r r' : List V → Hp → VK → Prop} (h : CallR X f r) (k : ∀ xs H Q, r' xs H Q → r xs H Q) : CallR X f r' := fun pins s σ H xs us Q I r q => h pins s σ H xs us Q I r (k _ _ _ q)
theorem pe_tupS {x1} (h : PA X es t) : PE X (.Tuple es x1 pos) (tTupS t) := by
  intro pins s σ H Q I hq
  refine wpAny_Tuple_spliced (thn (h pos pins s σ H _ I hq) fun us s1 ⟨xs, H1, I1, r, z, q⟩ => ⟨by rw [← r.length]; exact le1000 z, ?_⟩)
  have hf : H1 s1.heap.objs.size = none := I1.hok.fresh (Nat.le_refl _)
  refine ⟨.ref s1.heap.objs.size, upd H1 s1.heap.objs.size (.tup xs), I1.laid (t' := s1.toks) (fun b u e => Heap.get?_push_of_some _ e) (Nat.le_refl _) ?_, rfl, q _ _ (same_add hf) upd_same⟩
  exact ⟨le1000 z, us, r, ⟨_, Heap.get?_push_size _ rfl, rfl, _, rfl⟩⟩
theorem pe_lstS (h : PA X es t) : PE X (.List es pos) (tLstS t) := by
  intro pins s σ H Q I hq
  refine wpAny_List_spliced (thn (h pos pins s σ H _ I hq) fun us s1 ⟨xs, H1, I1, r, z, q⟩ => ⟨by rw [← r.length]; exact le1000 z, ?_⟩)
  have hf : H1 s1.heap.objs.size = none := I1.hok.fresh (Nat.le_refl _)
  refine ⟨.ref s1.heap.objs.size, upd H1 s1.heap.objs.size (.lst xs), I1.laid (t' := s1.toks) (fun b u e => Heap.get?_push_of_some _ e) (Nat.le_refl _) ?_, rfl, q _ _ (same_add hf) upd_same⟩
  exact ⟨le1000 z, us, 0, r, Heap.get?_push_size _ rfl⟩
theorem pe_dnewS : PE X (.Dict [] [] pos) tDNewS := fun pins s σ H Q I h => pe_dnewK pins s σ H Q I fun p hp => h p _ (same_add hp) upd_same
def rCatLS : R2 := fun x y H Q => ∃ a b xs ys, x = .ref a ∧ y = .ref b ∧ H a = some (.lst xs) ∧ H b = some (.lst ys) ∧ xs.length + ys.length ≤ 100000 ∧ ∀ p H', Same H H' → H' p = some (.lst (xs ++ ys)) → Q (.ref p) H'
theorem op_catLS : OpR X (binaryOp .Add) rCatLS := op_cat.weak fun x y H Q ⟨a, b, xs, ys, e1, e2, h1, h2, z, q⟩ => ⟨a, b, xs, ys, e1, e2, h1, h2, leMil z, fun p hp => q p _ (same_add hp) upd_same⟩
theorem call_tuple_ofS : CallR X (.type "tuple") (fun xs H Q => ∃ p ys, xs = [.ref p] ∧ (H p = some (.lst ys) ∨ H p = some (.tup ys)) ∧ ∀ l H', Same H H' → H' l = some (.tup ys) → Q (.ref l) H') :=
  call_tuple_of.weak fun xs H Q ⟨p, ys, e, h, q⟩ => ⟨p, ys, e, by
    rcases h with h | h
    · exact .inl ⟨SqL.of h, fun l hl => q l _ (same_add hl) upd_same⟩
    · exact .inr ⟨SqT.of h, q p H (Same.refl H) h⟩⟩
end
def MonoE (t : TE) : Prop := ∀ σ H (Q Q' : VK), (∀ v H', Q v H' → Q' v H') → t σ H Q → t σ H Q'
theorem mono_var (i : Nat) : MonoE (tVar i) := fun σ H Q Q' k ⟨v, e, q⟩ => ⟨v, e, k _ _ q⟩
theorem mono_c (v : V) : MonoE (tC v) := fun σ H Q Q' k q => k _ _ q
end L2
set_option Elab.async false
set_option linter.all false
set_option maxRecDepth 100000
set_option maxHeartbeats 4000000
namespace L2
open PySem PySem.Spec PyProof.Rows
def MonoA (t : TA) : Prop := ∀ σ H (Q Q' : List V → Hp → Prop), (∀ v H', Q v H' → Q' v H') → t σ H Q → t σ H Q'
theorem monoA_nil : MonoA tNil := fun σ H Q Q' k q => k _ _ q
theorem monoA_cons {te : TE} {tr : TA} (ha : MonoE te) (hr : MonoA tr) : MonoA (tCons te tr) := fun σ H Q Q' k q => ha σ H _ _ (fun x H1 q => hr σ H1 _ _ (fun xs H2 q => k _ _ q) q) q
def rLen (K : PySem.W.Frag) : List V → Hp → VK → Prop := fun xs H Q => ∃ p ys, xs = [.ref p] ∧ (SqL K H p ys ∨ SqT K H p ys) ∧ Q (.int ys.length) H
theorem call_lenK {X : Cx} {K : PySem.W.Frag} (hK : X.K = K) : CallR X (.builtin "len") (rLen K) := by
  subst hK
  exact call_len_seq
theorem lc_range {lo : Int} {n : Nat} {g : TG} {tt : TT} {te : TE} {σ : St} {H : Hp} {Q : VK} (Pv : Nat → List V → St → Hp → Prop) (hz : n ≤ sizeLine) (h0 : Pv 0 [] σ H) (hl : ∀ i ys σ H, i ≤ n → Pv i ys σ H → ys.length ≤ i)
    (hs : ∀ i ys σ H, i < n → Pv i ys σ H → g (.int (lo + i)) σ H fun σ3 H3 => tt σ3 H3 fun b H4 => if b = true then te σ3 H4 fun v H5 => Pv (i + 1) (ys ++ [v]) σ3 H5 else Pv (i + 1) ys σ3 H4)
    (hd : ∀ ys σ H, Pv n ys σ H → ∀ p, H p = none → Q (.ref p) (upd H p (.lst ys))) :
    ∃ W : Nat → Nat → List V → St → Hp → Prop, (∃ m, W 0 m [] σ H) ∧ ∀ i m ys σ' H', W i m ys σ' H' →
      ((Itr lo n).stop i H' ∧ ys.length ≤ sizeLine ∧ ∀ p, H' p = none → Q (.ref p) (upd H' p (.lst ys))) ∨
      ((Itr lo n).go i H' ∧ ys.length < sizeLine ∧ ∃ N : List V → St → Hp → Prop, (∀ zs σ2 H2, N zs σ2 H2 → ∃ m', m' < m ∧ W (i + 1) m' zs σ2 H2) ∧ ∀ x H2, (Itr lo n).yld i H' x H2 → g x σ' H2 fun σ3 H3 => tt σ3 H3 fun b H4 =>
        if b = true then te σ3 H4 fun v H5 => N (ys ++ [v]) σ3 H5 else N ys σ3 H4) := by
  refine ⟨fun i m ys σ H => m = n - i ∧ i ≤ n ∧ Pv i ys σ H, ⟨n, by simp, Nat.zero_le _, h0⟩, ?_⟩
  rintro i m ys σ H ⟨rfl, hi, p⟩
  have ql := hl i ys σ H hi p
  by_cases hlt : i < n
  · refine .inr ⟨hlt, by omega, Pv (i + 1), fun zs σ' H' p' => ⟨n - (i + 1), by omega, rfl, hlt, p'⟩, fun x H' y => ?_⟩
    obtain ⟨e, y⟩ := y
    subst e
    subst y
    exact hs i ys σ _ hlt p
  · have e : i = n := by omega
    subst e
    exact .inl ⟨Nat.le_refl _, by omega, hd ys σ H p⟩
def tLCR (bs : List (Option Nat)) (ta : TA) (g : TG) (tt : TT) (te : TE) : TE := fun σ H Q => ta σ H fun vs H1 => ∃ n : Nat, vs = [.int (n : Int)] ∧ n ≤ 100000 ∧ ∃ Pv : Nat → List V → St → Hp → Prop, Pv 0 [] (bst bs σ) H1 ∧
  (∀ i ys σ H, i ≤ n → Pv i ys σ H → ys.length ≤ i) ∧
  (∀ i ys σ H, i < n → Pv i ys σ H → g (.int (0 + i)) σ H fun σ3 H3 => tt σ3 H3 fun b H4 => if b = true then te σ3 H4 fun v H5 => Pv (i + 1) (ys ++ [v]) σ3 H5 else Pv (i + 1) ys σ3 H4) ∧
  ∀ ys σ H, Pv n ys σ H → ∀ p H', Same H H' → H' p = some (.lst ys) → Q (.ref p) H'
theorem pe_lcR {X : Cx} {scope : Scope} {cl : List (Str × Addr)} {N : List Str} {bs : List (Option Nat)} {tg a elt : Expr} {ifs : List Expr} {p pos' pos : Pos} {ta : TA} {g : TG} {tt : TT} {te : TE} (B : Blk X scope cl N bs) (hc : X.calm = true)
    (hgl : Gl X "range") (hmr : X.mg "range" = none) (ha : PA X [a] ta) (hm : MonoA ta) (hpl : plainE a = true) (hg : ∀ C fp s H, PG (cxBlk X scope cl C N fp s H) tg g) (ht : ∀ C fp s H, PTs (cxBlk X scope cl C N fp s H) ifs tt) (he : ∀ C fp s H, PE (cxBlk X scope cl C N fp s H) elt te)
    (hs : ∀ x, foldedSetIterable (.Call (.Name "range" p) [a] [] pos') X.env x = pure x := by intro _; rfl) : PE X (.ListComp elt [⟨tg, .Call (.Name "range" p) [a] [] pos', ifs, 0⟩] scope pos) (tLCR bs ta g tt te) := by
  intro pins s σ H Q I h
  refine @pe_lc X scope cl N bs tg _ elt ifs pos (iRng1 ta) g tt te B hc (@pi_range1 X tg a ta p pos' hgl hmr ha (star_cons hpl)) hg ht he hs pins s σ H Q I ?_
  refine hm σ H _ _ (fun vs H1 h => ?_) h
  obtain ⟨n, e, hz, Pv, p0, pl, ps, pd⟩ := h
  refine ⟨(n : Int), e, by omega, by omega, ?_⟩
  rw [Int.toNat_natCast]
  exact lc_range (Q := Q) Pv (leMil hz) p0 pl ps fun ys σ H hp p hpn => pd ys σ H hp p _ (same_add hpn) upd_same
theorem lc_list {K : PySem.W.Frag} {a : Addr} {xs : List V} {g : TG} {tt : TT} {te : TE} {σ : St} {H : Hp} {Q : VK} (Pv : Nat → List V → St → Hp → Prop) (hz : xs.length ≤ sizeLine) (h0 : Pv 0 [] σ H) (hl : ∀ i ys σ H, i ≤ xs.length → Pv i ys σ H → SqL K H a xs ∧ ys.length ≤ i)
    (hs : ∀ i x ys σ H, xs[i]? = some x → Pv i ys σ H → g x σ H fun σ3 H3 => tt σ3 H3 fun b H4 => if b = true then te σ3 H4 fun v H5 => Pv (i + 1) (ys ++ [v]) σ3 H5 else Pv (i + 1) ys σ3 H4)
    (hd : ∀ ys σ H, Pv xs.length ys σ H → ∀ p, H p = none → Q (.ref p) (upd H p (.lst ys))) :
    ∃ W : Nat → Nat → List V → St → Hp → Prop, (∃ m, W 0 m [] σ H) ∧ ∀ i m ys σ' H', W i m ys σ' H' →
      ((Itl K a).stop i H' ∧ ys.length ≤ sizeLine ∧ ∀ p, H' p = none → Q (.ref p) (upd H' p (.lst ys))) ∨
      ((Itl K a).go i H' ∧ ys.length < sizeLine ∧ ∃ N : List V → St → Hp → Prop, (∀ zs σ2 H2, N zs σ2 H2 → ∃ m', m' < m ∧ W (i + 1) m' zs σ2 H2) ∧ ∀ x H2, (Itl K a).yld i H' x H2 → g x σ' H2 fun σ3 H3 => tt σ3 H3 fun b H4 =>
        if b = true then te σ3 H4 fun v H5 => N (ys ++ [v]) σ3 H5 else N ys σ3 H4) := by
  refine ⟨fun i m ys σ H => m = xs.length - i ∧ i ≤ xs.length ∧ Pv i ys σ H, ⟨xs.length, by simp, Nat.zero_le _, h0⟩, ?_⟩
  rintro i m ys σ H ⟨rfl, hi, p⟩
  obtain ⟨q, ql⟩ := hl i ys σ H hi p
  by_cases hlt : i < xs.length
  · refine .inr ⟨⟨xs, xs[i], q, by simp [hlt]⟩, by omega, Pv (i + 1), fun zs σ' H' p' => ⟨xs.length - (i + 1), by omega, rfl, hlt, p'⟩, fun x H' y => ?_⟩
    obtain ⟨e, y⟩ := y
    subst e
    exact hs i x ys σ _ (y xs q) p
  · have e : i = xs.length := by omega
    subst e
    exact .inl ⟨⟨xs, q, Nat.le_refl _⟩, by omega, hd ys σ H p⟩
def tLCL (K : PySem.W.Frag) (bs : List (Option Nat)) (tl : TE) (g : TG) (tt : TT) (te : TE) : TE := fun σ H Q => tl σ H fun x H1 => ∃ a xs, x = .ref a ∧ SqL K H1 a xs ∧ xs.length ≤ 100000 ∧ ∃ Pv : Nat → List V → St → Hp → Prop, Pv 0 [] (bst bs σ) H1 ∧
  (∀ i ys σ H, i ≤ xs.length → Pv i ys σ H → SqL K H a xs ∧ ys.length ≤ i) ∧
  (∀ i x ys σ H, xs[i]? = some x → Pv i ys σ H → g x σ H fun σ3 H3 => tt σ3 H3 fun b H4 => if b = true then te σ3 H4 fun v H5 => Pv (i + 1) (ys ++ [v]) σ3 H5 else Pv (i + 1) ys σ3 H4) ∧
  ∀ ys σ H, Pv xs.length ys σ H → ∀ p H', Same H H' → H' p = some (.lst ys) → Q (.ref p) H'
theorem pe_lcL {X : Cx} {scope : Scope} {cl : List (Str × Addr)} {N : List Str} {bs : List (Option Nat)} {tg iter elt : Expr} {ifs : List Expr} {pos : Pos} {tl : TE} {g : TG} {tt : TT} {te : TE} (B : Blk X scope cl N bs) (hc : X.calm = true)
    (hl : PE X iter tl) (hm : MonoE tl) (hg : ∀ C fp s H, PG (cxBlk X scope cl C N fp s H) tg g) (ht : ∀ C fp s H, PTs (cxBlk X scope cl C N fp s H) ifs tt) (he : ∀ C fp s H, PE (cxBlk X scope cl C N fp s H) elt te)
    (hs : ∀ x, foldedSetIterable iter X.env x = pure x := by intro _; rfl) : PE X (.ListComp elt [⟨tg, iter, ifs, 0⟩] scope pos) (tLCL X.K bs tl g tt te) := by
  intro pins s σ H Q I h
  refine @pe_lc X scope cl N bs tg iter elt ifs pos (iList X.K tl) g tt te B hc (@pi_list X _ _ _ hl) hg ht he hs pins s σ H Q I ?_
  refine hm σ H _ _ (fun x H1 h => ?_) h
  obtain ⟨a, xs, e, hS, hz, Pv, p0, pl, ps, pd⟩ := h
  exact ⟨a, e, ⟨xs, hS⟩, lc_list (Q := Q) Pv (leMil hz) p0 pl ps fun ys σ H hp p hpn => pd ys σ H hp p _ (same_add hpn) upd_same⟩
end L2
set_option linter.all false
set_option maxRecDepth 100000
namespace SetT
open PySem PySem.SetTable
def adv (mask : Nat) (p : Probe) : Probe :=
  if p.more > 0 then { p with j := p.j + 1, more := p.more - 1 } else
  { p with j := (leap mask p.i p.perturb).1, more := runEnd mask (leap mask p.i p.perturb).1 - (leap mask p.i p.perturb).1, i := (leap mask p.i p.perturb).1, perturb := (leap mask p.i p.perturb).2 }
def st0 (mask : Nat) (b : Nat) : Probe := { j := b % (mask + 1), more := runEnd mask (b % (mask + 1)) - b % (mask + 1), i := b % (mask + 1), perturb := b, dummy := none }
def stk (mask b : Nat) : Nat → Probe
  | 0 => st0 mask b
  | k + 1 => adv mask (stk mask b k)
def pos (mask b k : Nat) : Nat := (stk mask b k).j
def fL (mask x : Nat) : Nat := (x * 5 + 1) % (mask + 1)
def itF (mask x : Nat) : Nat → Nat
  | 0 => x
  | n + 1 => fL mask (itF mask x n)
def orbit (mask x : Nat) : Nat → List Nat
  | 0 => []
  | n + 1 => x :: orbit mask (fL mask x) n
def fullB (mask : Nat) : Bool := (List.range (mask + 1)).all (fun z => (orbit mask 0 (mask + 1)).contains z) && (itF mask 0 (mask + 1) == 0)
theorem full7 : fullB 7 = true := by decide +kernel
theorem full31 : fullB 31 = true := by decide +kernel
theorem full127 : fullB 127 = true := by decide +kernel
theorem full511 : fullB 511 = true := by decide +kernel
def Rise (xs : Array Nat) : Prop := ∀ i j, i < j → j < xs.size → xs.getD i 0 < xs.getD j 0
end SetT
set_option linter.all false
set_option maxRecDepth 100000
namespace SetT
open PySem PySem.SetTable
structure SetOk (t : SetTable) (es : Array (Int × Value)) : Prop where
  full : fullB t.mask = true
  odd : t.mask % 2 = 1
  nod : t.dummies = #[]
  rise : Rise t.place
  le : ∀ (i v : Nat), t.place[i]? = some v → v < t.mask + 1
  size : t.place.size = es.size
  path : ∀ (i v : Nat) (e : Int × Value), t.place[i]? = some v → es[i]? = some e → ∃ k, pos t.mask (bits e.1) k = v ∧ ∀ k', k' < k → ∃ i' : Nat, t.place[i']? = some (pos t.mask (bits e.1) k')
variable {t : SetTable} {es : Array (Int × Value)}
end SetT
set_option linter.all false
set_option maxRecDepth 100000
namespace SetT
open PySem PySem.SetTable
def Occ (owner : Array (Option Nat)) (j : Nat) : Prop := (owner.getD j (some 0)).isNone = false
structure LayOk (mask : Nat) (hs : List Int) (owner : Array (Option Nat)) (k : Nat) : Prop where
  size : owner.size = mask + 1
  cnt : owner.toList.countP (·.isNone) + k = mask + 1
  lt : ∀ (j m : Nat), owner[j]? = some (some m) → m < k
  has : ∀ m, m < k → ∃ j : Nat, owner[j]? = some (some m)
  path : ∀ (j m : Nat) (h : Int), owner[j]? = some (some m) → hs[m]? = some h → ∃ kk, pos mask (bits h) kk = j ∧ ∀ k', k' < kk → Occ owner (pos mask (bits h) k')
end SetT
set_option Elab.async false
set_option linter.all false
set_option maxRecDepth 100000
set_option maxHeartbeats 4000000
namespace SetT
open PySem PySem.SetTable PySem.Spec PyProof.Rows
variable {prog : Program} {w : World} {N : Addr → Prop} {A : Around} {E : Value → Shared → Prop} {s : Shared}
abbrev IsP (prog : Program) (w : World) (h : Heap) (k : List Int) (b : Addr) : Prop := IsTupleKey (intKind prog w) h k b
abbrev hk (prog : Program) (w : World) (k : List Int) : Int := (tupleKind (intKind prog w)).hash k
def EntK (prog : Program) (w : World) (N : Addr → Prop) (h : Heap) (e : Int × Value) (k : List Int) : Prop := ∃ b, (e.2 = .ref b ∧ N b) ∧ IsP prog w h k b ∧ e.1 = hk prog w k
theorem EntK.inj {h : Heap} {e : Int × Value} {k k' : List Int} (x : EntK prog w N h e k) (y : EntK prog w N h e k') : k = k' := by
  obtain ⟨b, ⟨e1, _⟩, p, _⟩ := x
  obtain ⟨b', ⟨e2, _⟩, p', _⟩ := y
  rw [e1] at e2
  cases e2
  exact p.inj p'
end SetT
set_option Elab.async false
set_option linter.all false
set_option maxRecDepth 100000
set_option maxHeartbeats 4000000
namespace SetT
open PySem PySem.SetTable PySem.Spec PyProof.Rows
variable {prog : Program} {w : World} {N : Addr → Prop} {A : Around} {E : Value → Shared → Prop} {s : Shared}
end SetT
set_option Elab.async false
set_option linter.all false
set_option maxRecDepth 100000
set_option maxHeartbeats 4000000
namespace SetT
open PySem PySem.SetTable PySem.Spec PyProof.Rows
variable {prog : Program} {w : World} {N : Addr → Prop} {A : Around} {E : Value → Shared → Prop} {s : Shared}
def Mk (m : Nat) : Prop := m = 7 ∨ m = 31 ∨ m = 127 ∨ m = 511
theorem Mk.full {m : Nat} (h : Mk m) : fullB m = true ∧ m % 2 = 1 := by
  rcases h with rfl | rfl | rfl | rfl
  · exact ⟨full7, rfl⟩
  · exact ⟨full31, rfl⟩
  · exact ⟨full127, rfl⟩
  · exact ⟨full511, rfl⟩
end SetT
set_option Elab.async false
set_option linter.all false
set_option maxRecDepth 100000
set_option maxHeartbeats 4000000
namespace SetT
open PySem PySem.SetTable PySem.Spec PyProof.Rows
variable {prog : Program} {w : World} {A : Around} {E : Value → Shared → Prop} {s : Shared}
def SetN (h : Heap) (a : Addr) (n : Nat) : Prop := ∃ o es ep t, h.get? a = some o ∧ o.ExactSet ∧ o.data = .set es ep t ∧ t.fits es.size = true ∧ es.size = n
end SetT
set_option Elab.async false
set_option linter.all false
set_option maxRecDepth 100000
set_option maxHeartbeats 4000000
namespace L2
open PySem PySem.Spec PyProof.Rows
def setHO (q : Addr) (n : Nat) : HO := .ext fun h => SetT.SetN h q n
theorem setN_at {h1 h2 : Heap} {q : Addr} {n : Nat} (x : SetT.SetN h1 q n) (k : ∀ o, h1.get? q = some o → h2.get? q = some o) : SetT.SetN h2 q n :=
  let ⟨o, es, ep, t, ho, r⟩ := x; ⟨o, es, ep, t, k o ho, r⟩
section
variable {X : Cx}
def rLenS : List V → Hp → VK → Prop := fun xs H Q => ∃ q n, xs = [.ref q] ∧ H q = some (setHO q n) ∧ n ≤ 100000 ∧ Q (.int n) H
theorem call_lenS : CallR X (.builtin "len") rLenS := by
  intro pins s σ H xs us Q I r h
  obtain ⟨p, n, rfl, hp, hn, q⟩ := h
  obtain ⟨u, rfl, rx⟩ := vals1 r
  cases (show u = Value.ref p from rx)
  obtain ⟨o, es, ep, t, ho, hex, hd, hf, he⟩ : SetT.SetN s.heap p n := (I.hok p _ hp).1
  refine call_len_set ho hex hd hf (by omega) ⟨.int n, H, I.tok _, ⟨_, by rw [he]⟩, q⟩
end
end L2
set_option Elab.async false
set_option linter.all false
set_option maxRecDepth 100000
set_option maxHeartbeats 4000000
set_option Elab.async false
set_option linter.all false
set_option maxRecDepth 100000
set_option maxHeartbeats 4000000
set_option Elab.async false
set_option linter.all false
set_option maxRecDepth 100000
set_option maxHeartbeats 4000000
set_option Elab.async false
set_option linter.all false
set_option maxRecDepth 100000
set_option maxHeartbeats 4000000
set_option Elab.async false
set_option linter.all false
set_option maxRecDepth 100000
set_option maxHeartbeats 4000000
namespace L2
open PySem PySem.Spec PyProof.Rows PySem.SeqAt
def Atom : V → Prop
  | .non => True
  | .bl _ => True
  | .int _ => True
  | .str _ => True
  | _ => False
def Sam (K : PySem.W.Frag) (H : Hp) : Nat → V → V → Prop
  | 0, x, y => x = y ∧ Atom x
  | d + 1, x, y => (x = y ∧ Atom x) ∨ ∃ a b xs ys, x = .ref a ∧ y = .ref b ∧ ((SqT K H a xs ∧ SqT K H b ys) ∨ (SqL K H a xs ∧ SqL K H b ys)) ∧ xs.length = ys.length ∧ ∀ (i : Nat) u v, xs[i]? = some u → ys[i]? = some v → Sam K H d u v
section
variable {X : Cx}
theorem atom_eq {A : Around} {s : Shared} {x : V} {u v : Value} (h : Atom x) (ru : RelV x u) (rv : RelV x v) : EqAt A s u v true := by
  cases x with
  | non => cases (show u = Value.none from ru); cases (show v = Value.none from rv); exact EqAt.same _
  | bl b => cases (show u = Value.bool b from ru); cases (show v = Value.bool b from rv); exact EqAt.same _
  | int i =>
    obtain ⟨t, rfl⟩ := ru
    obtain ⟨t', rfl⟩ := rv
    have e := EqAt.int_int (A := A) (s := s) i t i t'
    rw [beq_self_eq_true] at e
    exact e
  | str i =>
    obtain ⟨t, rfl⟩ := ru
    obtain ⟨t', rfl⟩ := rv
    have e := (eqGives_str i i t t').at A s
    rw [beq_self_eq_true] at e
    exact e
  | _ => exact h.elim
theorem all_true (n : Nat) : (List.range n).all (fun _ => true) = true := by simp
theorem sam_eq {pins : List (Addr × Obj)} {σ : St} {H : Hp} {s : Shared} (I : Inv X pins σ H s) : ∀ (d : Nat) (A : Around) (x y : V) (u v : Value), A.units + d < cLine → Sam X.K H d x y → RelV x u → RelV y v → EqAt A s u v true
  | 0, A, x, y, u, v, hu, h, ru, rv => by
    obtain ⟨rfl, h⟩ := h
    exact atom_eq h ru rv
  | d + 1, A, x, y, u, v, hu, h, ru, rv => by
    rcases h with ⟨rfl, h⟩ | ⟨a, b, xs, ys, rfl, rfl, h, hl, hk⟩
    · exact atom_eq h ru rv
    cases (show u = Value.ref a from ru)
    cases (show v = Value.ref b from rv)
    by_cases hab : a = b
    · subst hab
      exact EqAt.same _
    refine EqAt.of_refs hab ?_
    rcases h with ⟨ha, hb⟩ | ⟨ha, hb⟩
    · obtain ⟨vs, rvs, pa, _⟩ := I.tuple ha
      obtain ⟨ws, rws, pb, _⟩ := I.tuple hb
      have l1 := rvs.length
      have l2 := rws.length
      have e := RcAt.tuples (A := A) (s := s) (e := fun _ => true) pa pb (by omega) (fun j h1 h2 => ?_)
      · rw [all_true] at e
        have : (vs.toArray.size == ws.toArray.size) = true := by simp; omega
        rw [this] at e
        exact e
      · simp only [List.size_toArray] at h1 h2
        obtain ⟨x1, e1, r1⟩ := rvs.get (List.getElem?_eq_getElem (l := xs) (i := j) (by omega))
        obtain ⟨y1, e2, r2⟩ := rws.get (List.getElem?_eq_getElem (l := ys) (i := j) (by omega))
        have g1 : vs[j] = x1 := by rw [List.getElem?_eq_getElem h1] at e1; exact Option.some.inj e1
        have g2 : ws[j] = y1 := by rw [List.getElem?_eq_getElem h2] at e2; exact Option.some.inj e2
        have g := sam_eq I d A.in1 _ _ x1 y1 (by show A.units + 1 + d < cLine; omega) (hk j _ _ (List.getElem?_eq_getElem (by omega)) (List.getElem?_eq_getElem (by omega))) r1 r2
        simp only [List.getElem_toArray, g1, g2]
        exact g
    · obtain ⟨vs, rvs, pa, _⟩ := I.list ha
      obtain ⟨ws, rws, pb, _⟩ := I.list hb
      have l1 := rvs.length
      have l2 := rws.length
      have e := RcAt.lists (A := A) (s := s) (e := fun _ => true) pa.isList pb.isList (by simp; omega) (by omega) (fun j h1 h2 => ?_)
      · rw [all_true] at e
        exact e
      · simp only [List.size_toArray] at h1 h2
        obtain ⟨x1, e1, r1⟩ := rvs.get (List.getElem?_eq_getElem (l := xs) (i := j) (by omega))
        obtain ⟨y1, e2, r2⟩ := rws.get (List.getElem?_eq_getElem (l := ys) (i := j) (by omega))
        have g1 : vs[j] = x1 := by rw [List.getElem?_eq_getElem h1] at e1; exact Option.some.inj e1
        have g2 : ws[j] = y1 := by rw [List.getElem?_eq_getElem h2] at e2; exact Option.some.inj e2
        have g := sam_eq I d A.in1 _ _ x1 y1 (by show A.units + 1 + d < cLine; omega) (hk j _ _ (List.getElem?_eq_getElem (by omega)) (List.getElem?_eq_getElem (by omega))) r1 r2
        simp only [List.getElem_toArray, g1, g2]
        exact g
def rNeD (K : PySem.W.Frag) (b : Bool) : R2 := fun x y H Q => ∃ (p q : Addr) (xs ys : List V), x = .ref p ∧ y = .ref q ∧ ((SqT K H p xs ∧ SqT K H q ys) ∨ (SqL K H p xs ∧ SqL K H q ys)) ∧ xs.length = ys.length ∧ (∀ (i : Nat) u v, xs[i]? = some u → ys[i]? = some v → Sam K H 6 u v) ∧ Q (.bl b) H
theorem sam_items {pins : List (Addr × Obj)} {σ : St} {H : Hp} {s : Shared} (I : Inv X pins σ H s) {A : Around} (hu : A.units + 7 < cLine) {xs ys : List V} {vs ws : List Value} (rvs : Vals xs vs) (rws : Vals ys ws) (hl : xs.length = ys.length)
    (hk : ∀ (i : Nat) u v, xs[i]? = some u → ys[i]? = some v → Sam X.K H 6 u v) (j : Nat) (h1 : j < vs.toArray.size) (h2 : j < ws.toArray.size) : EqAt A.in1 s vs.toArray[j] ws.toArray[j] true := by
  have l1 := rvs.length
  have l2 := rws.length
  simp only [List.size_toArray] at h1 h2
  obtain ⟨x1, e1, r1⟩ := rvs.get (List.getElem?_eq_getElem (l := xs) (i := j) (by omega))
  obtain ⟨y1, e2, r2⟩ := rws.get (List.getElem?_eq_getElem (l := ys) (i := j) (by omega))
  have g1 : vs[j] = x1 := by rw [List.getElem?_eq_getElem h1] at e1; exact Option.some.inj e1
  have g2 : ws[j] = y1 := by rw [List.getElem?_eq_getElem h2] at e2; exact Option.some.inj e2
  have g := sam_eq I 6 A.in1 _ _ x1 y1 (by show A.units + 1 + 6 < cLine; omega) (hk j _ _ (List.getElem?_eq_getElem (by omega)) (List.getElem?_eq_getElem (by omega))) r1 r2
  simp only [List.getElem_toArray, g1, g2]
  exact g
theorem op_neD {k : Nat} (hr : Room k X.A) : OpR X (compareOp .NotEq) (rNeD X.K false) := by
  intro pins s σ H x y v u Q I rx ry h
  obtain ⟨p, q, xs, ys, rfl, rfl, h, hl, hk, hq⟩ := h
  cases (show v = Value.ref p from rx)
  cases (show u = Value.ref q from ry)
  have hun := hr.un
  show wpAny _ _ (richCompare .NotEq (.ref p) (.ref q)) _ _ s
  rcases h with ⟨ha, hb⟩ | ⟨ha, hb⟩
  · obtain ⟨vs, rvs, pa, _⟩ := I.tuple ha
    obtain ⟨ws, rws, pb, _⟩ := I.tuple hb
    have l1 := rvs.length
    have l2 := rws.length
    refine RcNeAt.tuples (A := X.A) (s := s) (e := fun _ => true) pa pb (by omega) (sam_items I (by omega) rvs rws hl hk) _ _ _ _ ?_
    have e2 : (vs.toArray.size == ws.toArray.size) = true := by simp; omega
    rw [all_true, e2]
    exact ⟨.bl _, H, I, rfl, hq⟩
  · obtain ⟨vs, rvs, pa, _⟩ := I.list ha
    obtain ⟨ws, rws, pb, _⟩ := I.list hb
    have l1 := rvs.length
    have l2 := rws.length
    refine RcNeAt.lists (A := X.A) (s := s) (e := fun _ => true) pa.isList pb.isList (by simp; omega) (by omega) (sam_items I (by omega) rvs rws hl hk) _ _ _ _ ?_
    rw [all_true]
    exact ⟨.bl _, H, I, rfl, hq⟩
theorem op_eqD {k : Nat} (hr : Room k X.A) : OpR X (compareOp .Eq) (rNeD X.K true) := by
  intro pins s σ H x y v u Q I rx ry h
  obtain ⟨p, q, xs, ys, rfl, rfl, h, hl, hk, hq⟩ := h
  cases (show v = Value.ref p from rx)
  cases (show u = Value.ref q from ry)
  have hun := hr.un
  show wpAny _ _ (richCompare .Eq (.ref p) (.ref q)) _ _ s
  rcases h with ⟨ha, hb⟩ | ⟨ha, hb⟩
  · obtain ⟨vs, rvs, pa, _⟩ := I.tuple ha
    obtain ⟨ws, rws, pb, _⟩ := I.tuple hb
    have l1 := rvs.length
    have l2 := rws.length
    refine RcAt.tuples (A := X.A) (s := s) (e := fun _ => true) pa pb (by omega) (sam_items I (by omega) rvs rws hl hk) _ _ _ _ ?_
    have e2 : (vs.toArray.size == ws.toArray.size) = true := by simp; omega
    rw [all_true, e2]
    exact ⟨.bl _, H, I, rfl, hq⟩
  · obtain ⟨vs, rvs, pa, _⟩ := I.list ha
    obtain ⟨ws, rws, pb, _⟩ := I.list hb
    have l1 := rvs.length
    have l2 := rws.length
    refine RcAt.lists (A := X.A) (s := s) (e := fun _ => true) pa.isList pb.isList (by simp; omega) (by omega) (sam_items I (by omega) rvs rws hl hk) _ _ _ _ ?_
    rw [all_true]
    exact ⟨.bl _, H, I, rfl, hq⟩
end
end L2
set_option Elab.async false
set_option linter.all false
set_option maxRecDepth 100000
namespace L2
open PySem PySem.Spec PyProof.Rows
section
variable {κ : Type} [DecidableEq κ]
def valV (kvs : List (κ × V)) (k : κ) : Option V := (kvs.find? fun kv => decide (kv.1 = k)).map (·.2)
def putK (kvs : List (κ × V)) (k : κ) (v : V) : List (κ × V) :=
  if (kvs.any fun kv => decide (kv.1 = k)) = true then kvs.map (fun kv => if kv.1 = k then (kv.1, v) else kv) else kvs ++ [(k, v)]
theorem valV_pos {p : κ × V} {r : List (κ × V)} {k : κ} (e : p.1 = k) : valV (p :: r) k = some p.2 := by simp [valV, List.find?_cons, e]
theorem valV_neg {p : κ × V} {r : List (κ × V)} {k : κ} (e : ¬ p.1 = k) : valV (p :: r) k = valV r k := by simp [valV, List.find?_cons, e]
theorem length_putK (kvs : List (κ × V)) (k : κ) (v : V) : (putK kvs k v).length ≤ kvs.length + 1 := by
  unfold putK
  split
  · rw [List.length_map]; omega
  · rw [List.length_append, List.length_cons, List.length_nil]; omega
theorem RelO.getD {o : Option V} {u : Option Value} {d : V} {d' : Value} (r : RelO o u) (rd : RelV d d') : RelV (o.getD d) (u.getD d') := by
  cases o with
  | none => cases u with
    | none => exact rd
    | some _ => exact (show False from r).elim
  | some _ => cases u with
    | none => exact (show False from r).elim
    | some _ => exact r
theorem KV.val {kvs : List (κ × V)} {vs : List (κ × Value)} (r : KV kvs vs) (k : κ) : RelO (valV kvs k) (valueAt vs k) := by
  unfold KV at r
  induction r with
  | nil => exact True.intro
  | @cons p q ps qs h t ih =>
    obtain ⟨h1, h2⟩ := h
    by_cases e : p.1 = k
    · have e' : q.1 = k := h1.symm.trans e
      have b : valueAt (q :: qs) k = some q.2 := by simp [valueAt, List.find?_cons, e']
      rw [valV_pos e, b]; exact h2
    · have e' : ¬ q.1 = k := fun z => e (h1.trans z)
      have b : valueAt (q :: qs) k = valueAt qs k := by simp [valueAt, List.find?_cons, e']
      rw [valV_neg e, b]; exact ih
theorem KV.any {kvs : List (κ × V)} {vs : List (κ × Value)} (r : KV kvs vs) (k : κ) : (kvs.any fun kv => decide (kv.1 = k)) = vs.any fun kv => decide (kv.1 = k) := by
  unfold KV at r
  induction r with
  | nil => rfl
  | cons h t ih => rw [List.any_cons, List.any_cons, ih, h.1]
theorem KV.repl {kvs : List (κ × V)} {vs : List (κ × Value)} (r : KV kvs vs) (k : κ) {y : V} {u : Value} (ry : RelV y u) :
    KV (kvs.map fun kv => if kv.1 = k then (kv.1, y) else kv) (vs.map fun kv => if kv.1 = k then (kv.1, u) else kv) := by
  unfold KV at r ⊢
  induction r with
  | nil => exact .nil
  | @cons p q ps qs h t ih =>
    rw [List.map_cons, List.map_cons]
    refine .cons ?_ ih
    obtain ⟨h1, h2⟩ := h
    by_cases e : p.1 = k
    · rw [if_pos e, if_pos (h1.symm.trans e)]; exact ⟨h1, ry⟩
    · rw [if_neg e, if_neg (fun z => e (h1.trans z))]; exact ⟨h1, h2⟩
theorem KV.put {kvs : List (κ × V)} {vs : List (κ × Value)} (r : KV kvs vs) (k : κ) {y : V} {u : Value} (ry : RelV y u) : KV (putK kvs k y) (stored vs k u) := by
  unfold putK stored
  rw [r.any k]
  by_cases e : (vs.any fun kv => decide (kv.1 = k)) = true
  · rw [if_pos e, if_pos e]; exact r.repl k ry
  · rw [if_neg e, if_neg e]; exact Paired.snoc r ⟨rfl, ry⟩
theorem KV.keys {kvs : List (κ × V)} {vs : List (κ × Value)} (r : KV kvs vs) : kvs.map (·.1) = vs.map (·.1) := by
  unfold KV at r
  induction r with
  | nil => rfl
  | cons h t ih => rw [List.map_cons, List.map_cons, ih, h.1]
theorem KV.length {kvs : List (κ × V)} {vs : List (κ × Value)} (r : KV kvs vs) : kvs.length = vs.length := Paired.length r
end
theorem kV_is {P : Program} {w : World} {k : Key} {u : Value} (r : RelV (kV k) u) : (mixKind P w).is k u = true := by
  cases k with
  | inl i => obtain ⟨t, e⟩ := (show ∃ t, u = Value.int i t from r); subst e; exact mixKind_int P w i t
  | inr x => obtain ⟨t, e⟩ := (show ∃ t, u = Value.str x t from r); subst e; exact mixKind_str P w x t
theorem items_are {P : Program} {w : World} : ∀ {ks : List Key} {us : List Value}, Vals (ks.map kV) us → ItemsAre (mixKind P w) ks us
  | [], _, r => by rw [List.map_nil] at r; cases r; exact .nil
  | k :: ks, _, r => by
    rw [List.map_cons] at r
    cases r with
    | cons h t => exact .cons (kV_is h) (items_are t)
abbrev KT (H : Hp) : List (List Key × V) → List (List Key × Addr × Value) → Prop := Paired fun p q => p.1 = q.1 ∧ H q.2.1 = some (.tup (p.1.map kV)) ∧ RelV p.2 q.2.2
theorem KT.val {H : Hp} {kvs : List (List Key × V)} {xs : List (List Key × Addr × Value)} (r : KT H kvs xs) (k : List Key) : RelO (valV kvs k) ((atKey xs k).map (·.2)) := by
  induction r with
  | nil => exact True.intro
  | @cons p q ps qs h t ih =>
    obtain ⟨h1, _, h2⟩ := h
    by_cases e : p.1 = k
    · have e' : q.1 = k := h1.symm.trans e
      have b : atKey (q :: qs) k = some q.2 := by simp [atKey, List.find?_cons, e']
      rw [valV_pos e, b]; exact h2
    · have e' : ¬ q.1 = k := fun z => e (h1.trans z)
      have b : atKey (q :: qs) k = atKey qs k := by simp [atKey, List.find?_cons, e']
      rw [valV_neg e, b]; exact ih
theorem KT.keeps {H H' : Hp} {kvs : List (List Key × V)} {xs : List (List Key × Addr × Value)} (r : KT H kvs xs) (ht : ∀ b ys, H b = some (.tup ys) → H' b = some (.tup ys)) : KT H' kvs xs :=
  Paired.mapP r fun _ _ z => ⟨z.1, ht _ _ z.2.1, z.2.2⟩
section
variable {P : Program} {w : World} {H : Hp} {h : Heap} {a : Addr}
theorem rd_of {u : HO} (ok : HOk P w H h) (e : Rd H a u) : ObjOk P w H h a u := e.ok ok
theorem dk_rd {kvs : List (Key × V)} (ok : HOk P w H h) (e : Rd H a (.dK kvs)) : kvs.length ≤ sizeLine ∧ (a == sysModules) = false ∧ ∃ vs, KV kvs vs ∧ h.DictOf (mixKind P w) a vs :=
  show ObjOk P w H h a (.dK kvs) from rd_of ok e
theorem dk_of {kvs : List (Key × V)} (ok : HOk P w H h) (e : H a = some (.dK kvs)) : kvs.length ≤ sizeLine ∧ (a == sysModules) = false ∧ ∃ vs, KV kvs vs ∧ h.DictOf (mixKind P w) a vs := dk_rd ok (.inl e)
theorem key_of {ks : List Key} (ok : HOk P w H h) (e : H a = some (.tup (ks.map kV))) : (tupleKind (mixKind P w)).is h ks a := by
  obtain ⟨_, its, r, o, h1, h2, n, h3⟩ := (show ObjOk P w H h a (.tup (ks.map kV)) from ok a _ e)
  exact ⟨o, its.toArray, n, h1, h2, h3, by simpa using items_are r⟩
theorem dt_rd {kvs : List (List Key × V)} (ok : HOk P w H h) (e : Rd H a (.dT kvs)) : kvs.length ≤ sizeLine ∧ (a == sysModules) = false ∧
    ∃ xs, KT H kvs xs ∧ h.DictOfH (tupleKind (mixKind P w)) a xs := by
  obtain ⟨z, y, xs, r, o, es, ep, h1, h2, h3, h4, h5⟩ := (show ObjOk P w H h a (.dT kvs) from rd_of ok e)
  refine ⟨z, y, xs, r, o, es, ep, h1, h2, h3, h4, fun x hx => ?_, h5⟩
  have all : ∀ {l : List (List Key × V)} {m : List (List Key × Addr × Value)}, KT H l m → ∀ x ∈ m, (tupleKind (mixKind P w)).is h x.1 x.2.1 := by
    intro l m q
    induction q with
    | nil => intro x hx; exact nomatch hx
    | @cons p q ps qs hq t ih =>
      intro x hx
      rcases List.mem_cons.mp hx with e | hx
      · subst e
        exact key_of ok (by rw [← hq.1]; exact hq.2.1)
      · exact ih x hx
  exact all r x hx
end
def DGet (H : Hp) (a : Addr) (y : V) (r : Option V) : Prop :=
  (∃ kvs k, Rd H a (.dK kvs) ∧ y = kV k ∧ r = valV kvs k) ∨ ∃ kvs k b, Rd H a (.dT kvs) ∧ y = .ref b ∧ H b = some (.tup (k.map kV)) ∧ r = valV kvs k
def DPut (H : Hp) (a : Addr) (y v : V) (H' : Hp) : Prop :=
  (∃ kvs k, H a = some (.dK kvs) ∧ y = kV k ∧ kvs.length < sizeLine ∧ H' = upd H a (.dK (putK kvs k v))) ∨
  ∃ kvs k b, H a = some (.dT kvs) ∧ y = .ref b ∧ H b = some (.tup (k.map kV)) ∧ kvs.length < sizeLine ∧ H' = upd H a (.dT (putK kvs k v))
theorem DGet.k {H : Hp} {a : Addr} {kvs : List (Key × V)} {k : Key} (e : H a = some (.dK kvs)) : DGet H a (kV k) (valV kvs k) := .inl ⟨kvs, k, .inl e, rfl, rfl⟩
theorem DGet.t {H : Hp} {a b : Addr} {kvs : List (List Key × V)} {k : List Key} (e : H a = some (.dT kvs)) (eb : H b = some (.tup (k.map kV))) : DGet H a (.ref b) (valV kvs k) := .inr ⟨kvs, k, b, .inl e, rfl, eb, rfl⟩
theorem DPut.k {H : Hp} {a : Addr} {kvs : List (Key × V)} {k : Key} {v : V} (e : H a = some (.dK kvs)) (hl : kvs.length < sizeLine) : DPut H a (kV k) v (upd H a (.dK (putK kvs k v))) := .inl ⟨kvs, k, e, rfl, hl, rfl⟩
theorem DPut.t {H : Hp} {a b : Addr} {kvs : List (List Key × V)} {k : List Key} {v : V} (e : H a = some (.dT kvs)) (eb : H b = some (.tup (k.map kV))) (hl : kvs.length < sizeLine) :
    DPut H a (.ref b) v (upd H a (.dT (putK kvs k v))) := .inr ⟨kvs, k, b, e, rfl, eb, hl, rfl⟩
section
variable {X : Cx} {pins : List (Addr × Obj)} {σ : St} {H : Hp} {s : Shared} {a : Addr} {y v : V} {u r : Value} {o : Option V} {A : Around} {E : Value → Shared → Prop}
theorem d_getItem {Q : Value → Shared → Prop} (hu : A.units + 1 < cLine) (I : Inv X pins σ H s) (g : DGet H a y (some v)) (ry : RelV y u) (h : ∀ w' s', Inv X pins σ H s' → RelV v w' → Q w' s') :
    wpAny (model X.prog X.w) A (getItem (.ref a) u) Q E s := by
  rcases g with ⟨kvs, k, e, ey, l⟩ | ⟨kvs, k, b, e, ey, eb, l⟩
  · subst ey
    obtain ⟨z, hd, vs, rel, dd⟩ := dk_rd I.hok e
    obtain ⟨w', hw, rw'⟩ := RelO.some_of (v := v) (o := valueAt vs k) (by rw [l]; exact rel.val k)
    exact wpAny_getItem_of (kV_is ry) dd.mapOf hw (h w' _ (I.tok _) rw')
  · subst ey
    cases (show u = Value.ref b from ry)
    obtain ⟨z, hd, xs, rel, dd⟩ := dt_rd I.hok e
    obtain ⟨w', hw, rw'⟩ := RelO.some_of (v := v) (o := (atKey xs k).map (·.2)) (by rw [l]; exact rel.val k)
    obtain ⟨p, hp, hp2⟩ := Option.map_eq_some_iff.mp hw
    refine wpAny_getItem_heap (tupleKind_room_in1 hu) (key_of I.hok eb) dd hp ?_
    rw [hp2]
    exact h w' _ (I.tok _) rw'
theorem d_write {h' : Heap} {t' : Nat} {ob : HO} (I : Inv X pins σ H s) (mu : Mut (H a)) (hs : Heap.SameBut a s.heap h') (he : ∃ q, h'.get? a = some q) (new : ObjOk X.prog X.w (upd H a ob) h' a ob) :
    Inv X pins σ (upd H a ob) { s with heap := h', toks := t' } :=
  I.write (x := a) (e := a) mu (.inl rfl) (fun b q hb z => (hs.2 b hb).trans z) he new
theorem dk_new {P : Program} {w : World} {H' : Hp} {h' : Heap} {kvs : List (Key × V)} {vs : List (Key × Value)} (z : kvs.length ≤ sizeLine) (hd : (a == sysModules) = false) (rel : KV kvs vs) (dd : h'.DictOf (mixKind P w) a vs) :
    ObjOk P w H' h' a (.dK kvs) := ⟨z, hd, vs, rel, dd⟩
end
section
variable {X : Cx} {pins : List (Addr × Obj)} {σ : St} {H : Hp} {s : Shared} {a : Addr} {kvs : List (Key × V)} {k : Key} {u : Value} {A : Around} {E : Value → Shared → Prop}
theorem d_len {Q : Value → Shared → Prop} (I : Inv X pins σ H s) (e : Rd H a (.dK kvs)) (h : ∀ t s', Inv X pins σ H s' → Q (.int kvs.length t) s') : wpAny (model X.prog X.w) A (call (.builtin "len") [.ref a]) Q E s := by
  obtain ⟨z, hd, vs, rel, dd⟩ := dk_rd I.hok e
  refine call_len_dict hd dd (by rw [← rel.length]; rw [sizeLine_eq] at z; omega) ?_
  rw [← rel.length]
  exact h _ _ (I.tok _)
end
def NoSl (i : Expr) : Prop := ∀ ov iv, subscripted i false ov iv = operate [ov, iv] (getItem ov iv)
theorem subD_of {prog : Program} {w : World} {A : Around} {E : Value → Shared → Prop} {s : Shared} {env : Env} {value slice : Expr} {pos : Pos} {T id : String} {Q : Value → Shared → Prop}
    (hl : typeLookup (.type T) "__getitem__" = pure (some (.builtin id))) (hs : NoSl slice)
    (h : wpAny (model prog w) A (eval value env) (fun o s₁ => wpAny (model prog w) A (eval slice env) (fun i s₂ => s₂.TypeIs o T ∧ wpAny (model prog w) A (getItem o i) Q E s₂) E s₁) E s) :
    wpAny (model prog w) A (eval (.Subscript value slice pos) env) Q E s := by
  refine Subscript_ (wpAny_mono h (fun o s₁ h₁ => wpAny_mono h₁ (fun i s₂ h₂ => ?_) fun _ _ x => x) fun _ _ x => x)
  obtain ⟨hT, h₂⟩ := h₂
  unfold subscriptTail
  refine wpAny_bind ?_
  rw [getitemInPython_of_ne hT.not_modules]
  refine wpAny_bind (wpAny_specialOf hT hl ?_)
  have fin : wpAny (model prog w) A (subscripted slice false o i) (fun r s₃ => wpAny (model prog w) A (letTemporaryGo value o r >>= fun _ => pure r) Q E s₃) E s₂ := by
    rw [hs o i]
    exact wpAny_operating (wpAny_mono h₂ (fun r s₃ h₃ => wpAny_bind (wpAny_letTemporaryGo (wpAny_pure h₃))) fun _ _ x => x)
  first
    | exact wpAny_pure (wpAny_bind fin)
    | exact wpAny_bind (wpAny_pure (wpAny_bind fin))
    | exact wpAny_bind fin
theorem dict_typeIs {X : Cx} {pins : List (Addr × Obj)} {σ : St} {H : Hp} {s : Shared} {a : Addr} {y : V} {o : Option V} (I : Inv X pins σ H s) (g : DGet H a y o) : s.TypeIs (.ref a) "dict" := by
  rcases g with ⟨kvs, k, e, _, _⟩ | ⟨kvs, k, b, e, _, _, _⟩
  · obtain ⟨_, _, vs, _, dd⟩ := dk_rd I.hok e
    exact dd.typeIs
  · obtain ⟨_, _, xs, _, dd⟩ := dt_rd I.hok e
    exact dd.typeIs
def tDGet (td ty : TE) : TE := fun σ H Q => td σ H fun x H1 => ty σ H1 fun y H2 => ∃ a v, x = .ref a ∧ DGet H2 a y (some v) ∧ Q v H2
section
variable {X : Cx} {o i e value : Expr} {pos pos' tpos : Pos} {td ty tv : TE}
theorem pe_dget (hu : X.A.units + 1 < cLine) (ho : PE X o td) (hi : PE X i ty) (hs : NoSl i) : PE X (.Subscript o i pos) (tDGet td ty) := by
  intro pins s σ H Q I h
  refine subD_of PySem.F.slot_dict_getitem.lookup hs (thn (ho pins s σ H _ I h) fun u s1 ⟨x, H1, I1, rx, q1⟩ => thn (hi pins s1 σ H1 _ I1 q1) fun iv s2 ⟨y, H2, I2, ry, a, v, ex, g, q2⟩ => ?_)
  subst ex
  obtain rfl : u = Value.ref a := rx
  exact ⟨dict_typeIs I2 g, d_getItem hu I2 g ry fun w' s3 I3 rw' => ⟨v, H2, I3, rw', q2⟩⟩
end
structure M1 (X : Cx) (o : Expr) (m : Str) (apos : Pos) (e : Expr) (cpos : Pos) : Prop where
  base : attributeBase o m X.env (eval o X.env) = eval o X.env
  few : ((backTo cpos (starEach [e] X.env)).all (fun x => !x.1) && (backToKw cpos (keywordEach [] X.env)).all (fun x => x.1.isSome)
    && decide (([e] : List Expr).length + ([] : List Keyword).length + (if ([] : List Keyword).isEmpty then 0 else 1) < 30)) = true
  line : (apos.endLine == cpos.line) = true
  trees : backTo cpos (starEach [e] X.env) = [(false, eval e X.env)]
structure M2 (X : Cx) (o : Expr) (m : Str) (apos : Pos) (e f : Expr) (cpos : Pos) : Prop where
  base : attributeBase o m X.env (eval o X.env) = eval o X.env
  few : ((backTo cpos (starEach [e, f] X.env)).all (fun x => !x.1) && (backToKw cpos (keywordEach [] X.env)).all (fun x => x.1.isSome)
    && decide (([e, f] : List Expr).length + ([] : List Keyword).length + (if ([] : List Keyword).isEmpty then 0 else 1) < 30)) = true
  line : (apos.endLine == cpos.line) = true
  trees : backTo cpos (starEach [e, f] X.env) = [(false, eval e X.env), (false, eval f X.env)]
def IsD (H : Hp) (a : Addr) : Prop := (∃ kvs, Rd H a (.dK kvs)) ∨ ∃ kvs, Rd H a (.dT kvs)
theorem isD_at {X : Cx} {pins : List (Addr × Obj)} {σ : St} {H : Hp} {s : Shared} {a : Addr} (I : Inv X pins σ H s) (d : IsD H a) :
    s.TypeIs (.ref a) "dict" ∧ (∀ b, Value.ref a = .ref b → ∃ ob, s.heap.get? b = some ob ∧ ob.dict = none) ∧ (a == sysModules) = false := by
  rcases d with ⟨kvs, e⟩ | ⟨kvs, e⟩
  · obtain ⟨_, hd, vs, _, dd⟩ := dk_rd I.hok e
    refine ⟨dd.typeIs, fun b q => ?_, hd⟩
    cases q
    obtain ⟨ob, _, _, h1, h2, _⟩ := dd
    exact ⟨ob, h1, h2.2.1⟩
  · obtain ⟨_, hd, xs, _, dd⟩ := dt_rd I.hok e
    refine ⟨dd.typeIs, fun b q => ?_, hd⟩
    cases q
    obtain ⟨ob, _, _, h1, h2, _⟩ := dd
    exact ⟨ob, h1, h2.2.1⟩
section
variable {X : Cx} {pins : List (Addr × Obj)} {σ : St} {H : Hp} {s : Shared} {a : Addr} {kvs : List (Key × V)} {A : Around} {E : Value → Shared → Prop}
theorem d_copyOf {Q : Value → Shared → Prop} (I : Inv X pins σ H s) (e : Rd H a (.dK kvs)) (h : ∀ p s', H p = none → Inv X pins σ (upd H p (.dK kvs)) s' → Q (.ref p) s') : wpAny (model X.prog X.w) A (call (.type "dict") [.ref a]) Q E s := by
  obtain ⟨z, hd, vs, rel, dd⟩ := dk_rd I.hok e
  refine kt_call_dict hd dd (by rw [← rel.length]; exact z) fun h' dd' hs => ?_
  refine h _ _ (I.hok.fresh (Nat.le_refl _)) (I.laid (a := s.heap.objs.size) (o := .dK kvs) (t' := s.toks) (fun b q hq => ?_) (Nat.le_refl _) (dk_new z (beq_eq_false_iff_ne.mpr (Ne.symm (Nat.ne_of_lt I.big))) rel dd'))
  exact (hs.2 b (Nat.ne_of_lt (Heap.lt_size hq))).trans (Heap.get?_push_of_some _ hq)
end
end L2
namespace L2
open PySem PySem.Spec PyProof.Rows
section
variable {X : Cx}
theorem call_lenD : CallR X (.builtin "len") (fun xs H Q => ∃ a kvs, xs = [V.ref a] ∧ H a = some (.dK kvs) ∧ Q (.int kvs.length) H) := by
  intro pins s σ H xs us Q I r h
  obtain ⟨a, kvs, rfl, ha, q⟩ := h
  obtain ⟨u, rfl, ru⟩ := vals1 r
  cases ru
  exact d_len I (.inl ha) fun t s' I' => ⟨.int kvs.length, H, I', ⟨t, rfl⟩, q⟩
end
end L2
set_option Elab.async false
set_option linter.all false
set_option maxRecDepth 100000
set_option maxHeartbeats 4000000
set_option Elab.async false
set_option linter.all false
set_option maxRecDepth 100000
set_option maxHeartbeats 4000000
set_option Elab.async false
set_option linter.all false
set_option maxRecDepth 100000
set_option maxHeartbeats 4000000
set_option Elab.async false
set_option linter.all false
set_option maxRecDepth 100000
set_option maxHeartbeats 4000000
set_option Elab.async false
set_option linter.all false
set_option maxRecDepth 100000
set_option maxHeartbeats 4000000
namespace L2
open PySem PySem.Spec PyProof.Rows
theorem same_new {H : Hp} {d : Addr} {o : HO} (h : H d = Option.none) : Same H (upd H d o) := fun b u e => by rw [upd_ne (ne_of_none e h)]; exact e
theorem Same.none {H H' : Hp} (s : Same H H') {d : Addr} (h : H' d = Option.none) : H d = Option.none := by
  cases z : H d with
  | none => rfl
  | some o => rw [s d o z] at h; cases h
theorem Same.wr {H H' : Hp} (s : Same H H') {d : Addr} {o : HO} (h : H d = Option.none) : Same H (upd H' d o) := fun b u e => by rw [upd_ne (ne_of_none e h)]; exact s b u e
end L2
namespace My
open PySem L2
theorem bLen : bootBuiltins "len" = some (.builtin "len") := by decide +kernel
theorem bIsi : bootBuiltins "isinstance" = some (.builtin "isinstance") := by decide +kernel
theorem bInt : bootBuiltins "int" = some (.type "int") := by decide +kernel
theorem bTuple : bootBuiltins "tuple" = some (.type "tuple") := by decide +kernel
theorem bDict : bootBuiltins "dict" = some (.type "dict") := by decide +kernel
structure Bi (mg : Str → Option Value) : Prop where
  len : mg "len" = none
  isi : mg "isinstance" = none
  int : mg "int" = none
  bool : mg "bool" = none
  tuple : mg "tuple" = none
  list : mg "list" = none
  range : mg "range" = none
  max : mg "max" = none
  min : mg "min" = none
  zip : mg "zip" = none
  dict : mg "dict" = none
theorem kit (K : PySem.W.Frag) (T U : String) (b : Bool) (h : PySem.W.kitOne [] (.type T) (.type U) = some b) : PySem.W.kitOne K (.type T) (.type U) = some b := h
structure NetZ (H : Hp) (p : Addr) (n : Nat) (q : Addr) (ts : List V) (es : List (Nat × Nat)) : Prop where
  e1 : H p = some (.tup [.int (n : Int), .ref q])
  e2 : H q = some (.tup ts)
  len : ts.length = es.length
  tie : ∀ (i : Nat) t, ts[i]? = some t → ∃ a, t = V.ref a ∧ H a = some (.tup [.int ((es.getD i (0, 0)).1 : Int), .int ((es.getD i (0, 0)).2 : Int)])
  l200 : es.length ≤ 200
  n60 : n ≤ 60
  ok : ∀ e ∈ es, e.1 < n ∧ e.2 < n ∧ e.1 ≠ e.2
def tN : Option Nat → V
  | none => .non
  | some t => .int (t : Int)
def tv (tl : List (Option Nat)) : List V := tl.map tN
end My
set_option Elab.async false
set_option linter.all false
set_option maxRecDepth 100000
set_option maxHeartbeats 4000000
namespace My
open PySem L2
def At (e : Nat × Nat) (p : Nat) : Prop := p = e.1 ∨ p = e.2
end My
set_option Elab.async false
set_option linter.all false
set_option maxRecDepth 100000
set_option maxHeartbeats 4000000
namespace My
open PySem L2
def cnt (tl : List (Option Nat)) (t : Nat) : Nat := tl.count (some t)
end My
set_option Elab.async false
set_option linter.all false
set_option maxRecDepth 100000
set_option maxHeartbeats 4000000
namespace My
def InP (tl : List (Option Nat)) (u v k : Nat) : Prop := tl[k]? = some (some u) ∨ tl[k]? = some (some v)
inductive RP (es : List (Nat × Nat)) (tl : List (Option Nat)) (u v p : Nat) : Nat → Prop
  | start : RP es tl u v p p
  | step {x y k : Nat} : RP es tl u v p x → k < es.length → InP tl u v k → At (es.getD k (0, 0)) x → At (es.getD k (0, 0)) y → RP es tl u v p y
def RT (es : List (Nat × Nat)) (tl : List (Option Nat)) (u v p k : Nat) : Prop := k < es.length ∧ InP tl u v k ∧ ∃ x, RP es tl u v p x ∧ At (es.getD k (0, 0)) x
structure Walk (es : List (Nat × Nat)) (tl : List (Option Nat)) (u v p : Nat) (F : Nat → Prop) (V W : Nat → Prop) : Prop where
  rt : ∀ k, F k → RT es tl u v p k
  rw : ∀ x, W x → RP es tl u v p x
  cl : ∀ x, V x → ∀ k, k < es.length → InP tl u v k → At (es.getD k (0, 0)) x → F k
  en : ∀ k, F k → ∀ x, At (es.getD k (0, 0)) x → V x ∨ W x
  st : V p ∨ W p
theorem Walk.done {es : List (Nat × Nat)} {tl : List (Option Nat)} {u v p : Nat} {F V W : Nat → Prop} (h : Walk es tl u v p F V W) (hW : ∀ x, ¬ W x) : ∀ k, F k ↔ RT es tl u v p k := by
  have hV : ∀ x, RP es tl u v p x → V x := fun x hx => by
    induction hx with
    | start => exact h.st.resolve_right (hW _)
    | step _ h1 h2 h3 h4 ih => exact (h.en _ (h.cl _ ih _ h1 h2 h3) _ h4).resolve_right (hW _)
  exact fun k => ⟨h.rt k, fun ⟨a, b, x, c, d⟩ => h.cl x (hV x c) k a b d⟩
end My
set_option linter.all false
namespace My
def draw (ns : List Int) (k : Int) : Int :=
  let cell : Int := if ns.length > 0 then ns.getD (k % (ns.length : Int)).toNat 0 % 2147483629 + k / (ns.length : Int) * 5381 + 1 else 3 * k + 1
  let c2 := (cell * 69621 + k * k * 40692 + 7) % 2147483647
  c2 * c2 % 2147483587
theorem draw_nn (ns : List Int) (k : Int) : 0 ≤ draw ns k := Int.emod_nonneg _ (by decide)
theorem mod_lo {n p : Int} (h : 0 < p) : 0 ≤ n % p := Int.emod_nonneg _ (by omega)
theorem mod_hi {n p : Int} (h : 0 < p) : n % p < p := Int.emod_lt_of_pos _ h
end My
set_option Elab.async false
set_option linter.all false
set_option maxRecDepth 100000
set_option maxHeartbeats 4000000
namespace L2
open PySem PySem.Spec PyProof.Rows
structure Mk0 (K : PySem.W.Frag) (C : Addr) : Prop where
  makes : PySem.W.makesIn K C = true
  init : PySem.W.findIn K (.ref C) "__init__" = some (some (.builtin "object.__init__"))
  kp : PySem.W.keepIn K (.ref C) = true
structure OwnC (K : PySem.W.Frag) (C : Addr) : Prop where
  cl : Cls K C
  ha : PySem.W.findIn K (.ref C) "__class__" = some (some (.builtin "object.__class__"))
  hn : PySem.W.specialIn K (.builtin "object.__class__") "__get__" = some (some (.builtin "getset_descriptor.__get__"))
  htk : PySem.W.takesIn K (.builtin "object.__class__") = some true
  hm : PySem.W.mroIn K C (.type "object") = some true
theorem OwnC.ty {K : PySem.W.Frag} {H : Hp} {a C dx : Addr} {fs : List (Str × V)} (o : OwnC K C) (e : H a = some (.ins C dx fs)) : TyOf K H (.ref a) (.ref C) := .ins e o.cl o.ha o.hn o.htk o.hm
section
variable {X : Cx}
def tNew (C : Addr) : TE := fun _ H Q => ∀ x dx, H x = none → H dx = none → dx ≠ x → Q (.ref x) (upd (upd H dx (.own x)) x (.ins C dx []))
theorem pe_new {x : Str} {C : Addr} {p pos : Pos} (M : Mk0 X.K C) (hg : Gl X x) (hm : X.mg x = some (.ref C)) (hdb : (x == ("__debug__" : Str)) = false := by decide) : PE X (.Call (.Name x p) [] [] pos) (tNew C) := by
  intro pins s σ H Q I h
  refine wpAny_Call_Name_kw (ld_glob I hg hm ?_ hdb)
  refine PySem.W.callWith_K0 I.kIn M.kp ?_
  have hq := h (s.heap.objs.size + 1) s.heap.objs.size (I.hok.fresh (Nat.le_succ _)) (I.hok.fresh (Nat.le_refl _)) (Nat.ne_of_lt (Nat.lt_succ_self _))
  have I2 := Inv.made (C := C) I
  have Y := PySem.W.makes_of (M := model X.prog X.w) I.kIn M.makes
  refine wpAny_call (make_map0 I.kIn M.makes M.init (fun self => PySem.W.Looks.of_pure (PySem.W.oi_bind self)) ?_)
  have g1 : ((s.heap.push PySem.W.emptyDict).push (PySem.W.instObj C s.heap.objs.size)).get? (s.heap.objs.size + 1) = some (PySem.W.instObj C s.heap.objs.size) := by
    have := Heap.get?_push_size (s.heap.push PySem.W.emptyDict) (o := PySem.W.instObj C s.heap.objs.size) rfl
    rwa [Heap.size_push] at this
  have t1 : PySem.W.Looks (model X.prog X.w) ((s.heap.push PySem.W.emptyDict).push (PySem.W.instObj C s.heap.objs.size)) (typeOf (.ref (s.heap.objs.size + 1))) (.ref C) := (PySem.W.Looks.ld g1).andThen .now
  have t2 : PySem.W.Looks (model X.prog X.w) ((s.heap.push PySem.W.emptyDict).push (PySem.W.instObj C s.heap.objs.size)) (isInstance (.ref (s.heap.objs.size + 1)) (.type "object")) true := t1.andThen (Y.top.keeps fun b o e => Heap.get?_push_of_some _ (Heap.get?_push_of_some _ e))
  refine codeAny_call_builtin PySem.W.oi_plain PySem.W.entry_oi (@PySem.W.check_slot (model X.prog X.w) _ _ _ "object.__init__" "object" "__init__" (.ref (s.heap.objs.size + 1)) [] [] _ PySem.W.oi_kind PySem.W.oi_split t2 (PySem.W.oi_args (.ref (s.heap.objs.size + 1))) ?_)
  rw [PySem.W.oi_run]
  exact wpAny_pure (And.intro rfl ⟨.ref (s.heap.objs.size + 1), _, I2, rfl, hq⟩)
theorem refs_of : ∀ {cs : List Addr} {us : List Value}, Vals (cs.map V.ref) us → us = cs.map Value.ref
  | [], _, .nil => rfl
  | c :: cs, _, .cons h t => by
    rw [refs_of t]
    cases (show _ = Value.ref c from h)
    rfl
structure MethOk (X : Cx) (m : Str) (C : Addr) (sp : Sp) : Prop where
  ex : ∃ f fd ps k, Cls X.K C ∧ Meth X.K C m f ∧ FnOk X.prog X.w X.K X.mg X.base CX0 k f fd ps sp ∧ Room k X.A ∧ Binds X.K fd ps []
end
end L2
set_option Elab.async false
set_option linter.all false
set_option maxRecDepth 100000
set_option maxHeartbeats 4000000
namespace PySem.W
open PySem PySem.Spec PySem.Calls PyProof.Rows PyProof.V
section
variable {prog : Program} {w : World} {A : Around} {E : Value → Shared → Prop} {s : Shared} {T : String} {r d : Addr} {n : Nat} {P : Nat → Value → Prop} {OK : Heap → Prop}
theorem dcollect {R : List Value → Shared → Prop} (K : KdlSrc prog w T r d n P OK) (hh : A.handled = none) (hok : OK s.heap) (hn : n ≤ sizeLine)
    (h : ∀ (h' : Heap) (tk : Nat) (acc : Array Value), (∀ b o, s.heap.get? b = some o → h'.get? b = some o) → s.heap.objs.size < h'.objs.size → ItemsOf P acc n → R acc.toList { s with heap := h', toks := tk }) :
    wpAny (model prog w) A (collect (.ref r)) R E s := by
  have hlt := K.there _ hok
  unfold collect
  refine wpAny_bind (wpAny_runValue (codeAny_builtin entry_proto_collect' ?_))
  rw [Around.under_plainId PySem.F.plain_proto_collect _]
  show wpAny _ A.in1 (newList [] >>= fun l => again (.builtin "list.__iadd__" ⟨[l, .ref r], []⟩)) _ _ s
  refine wpAny_bind (wpAny_newObj_type ?_)
  refine wpAny_pure ⟨plainId_quiet PySem.F.plain_list_iadd _, codeAny_builtin entry_list_iadd' ?_⟩
  rw [Around.under_plainId PySem.F.plain_list_iadd _]
  have hS₁ : (s.heap.push { cls := .type "list", data := .seq ([] : List Value).toArray }).get? s.heap.objs.size = some { cls := .type "list", data := .seq #[] } := Heap.get?_push_size _ rfl
  show wpAny _ A.in1 (Builtin.List.listExtendWith (.ref s.heap.objs.size) (.ref r) (.ref s.heap.objs.size)) _ _ _
  have key := kdl_extend (A := A) (s := { s with heap := s.heap.push { cls := .type "list", data := .seq ([] : List Value).toArray } })
    (R := fun (q : Result) (s' : Shared) => ∃ (h' : Heap) (tk : Nat) (acc' : Array Value) (c' : Nat), q = .ok (.ret (.ref s.heap.objs.size)) ∧ s' = { s with heap := h', toks := tk } ∧
      (∀ b o, s.heap.get? b = some o → h'.get? b = some o) ∧ h'.get? s.heap.objs.size = some { cls := .type "list", dict := none, data := .seq acc' c', slots := #[] } ∧ ItemsOf P acc' n)
    K hh (K.keep _ _ hok fun b _ o e => Heap.get?_push_of_some _ e) s.heap.objs.size (Nat.ne_of_gt hlt.1) (Nat.ne_of_gt hlt.2) (.ref s.heap.objs.size) 0 hS₁
    (fun h' tk acc' c' hk hS' hacc => ⟨h', tk, acc', c', rfl, rfl, fun b o e => hk b o (Nat.ne_of_lt (Heap.lt_size e)) (Heap.get?_push_of_some _ e), hS', hacc⟩) hn
  refine wpAny_mono key (fun fin s' x => ?_) fun e s' x => ?_
  · cases fin with
    | done f =>
      obtain ⟨h', tk, acc', c', e, rfl, hk, hS', hacc⟩ := x
      cases e
      show wpAny _ A (load s.heap.objs.size >>= _) _ _ _
      refine wpAny_bind (wpAny_load hS' ?_)
      exact wpAny_pure (h h' tk acc' hk (Heap.lt_size hS') hacc)
    | again c₁ =>
      refine ⟨x.1, codeAny_mono x.2 fun q s₂ y => ?_⟩
      obtain ⟨h', tk, acc', c', rfl, rfl, hk, hS', hacc⟩ := y
      show wpAny _ A (load s.heap.objs.size >>= _) _ _ _
      refine wpAny_bind (wpAny_load hS' ?_)
      exact wpAny_pure (h h' tk acc' hk (Heap.lt_size hS') hacc)
  · obtain ⟨_, _, _, _, e', _⟩ := x
    cases e'
end
end PySem.W
namespace L2
open PySem PySem.Spec PyProof.Rows
section
variable {X : Cx}
def tDSetD (td ty tx : TE) : TE := fun σ H Q => td σ H fun x H1 => ∃ a, x = .ref a ∧ IsD H1 a ∧ ty σ H1 fun y H2 => tx σ H2 fun z H3 => ∃ kvs k, H3 a = some (.dK kvs) ∧ y = kV k ∧ kvs.length < 100000 ∧ (∀ v, valV kvs k = some v → Q v H3) ∧ (valV kvs k = none → Q z (upd H3 a (.dK (putK kvs k z))))
theorem pe_dsetd {o e f : Expr} {td ty tx : TE} {apos cpos : Pos} (ho : PE X o td) (he : PE X e ty) (hf : PE X f tx) (m : M2 X o "setdefault" apos e f cpos) : PE X (.Call (.Attribute o "setdefault" apos) [e, f] [] cpos) (tDSetD td ty tx) := by
  intro pins s σ H Q I h
  refine wpAny_Call_method m.base m.few m.line PySem.F.plainAttrs_dict PySem.F.slot_dict_setdefault PySem.F.type_dict_setdefault (thn (ho pins s σ H _ I h) fun u s1 ⟨x, H1, I1, rx, a, ex, d, q1⟩ => ?_)
  subst ex
  obtain rfl : u = Value.ref a := rx
  obtain ⟨t1, t2, _⟩ := isD_at I1 d
  refine ⟨t1, t2, ?_⟩
  rw [m.trees]
  refine Calls.callWith_builtin rfl (Calls.evalArgs_plain (Calls.spliced_cons (thn (he pins s1 σ H1 _ I1 q1) fun iv s2 ⟨y, H2, I2, ry, q2⟩ =>
    Calls.spliced_cons (thn (hf pins s2 σ H2 _ I2 q2) fun fv s3 ⟨z, H3, I3, rz, kvs, k, hd, ey, hl, q3, q4⟩ => Calls.spliced_nil ?_))))
  subst ey
  obtain ⟨zz, lo, vs, rel, dd⟩ := dk_of I3.hok hd
  have hz : vs.length ≤ sizeLine := by rw [← rel.length]; exact zz
  refine call_meetsIn PySem.F.slot_dict_setdefault dd.typeIs PySem.F.entry_dict_setdefault (PySem.F.args_dict_setdefault_3 _ _ _) (kt_meets_setdefault (mixKind X.prog X.w) a (kV_is ry) lo fv) ⟨vs, dd, hz, fun v hv => ?_, fun hn h' dd' hs => ?_⟩
  · have rv := rel.val k
    rw [hv] at rv
    cases hk : valV kvs k with
    | none => rw [hk] at rv; exact rv.elim
    | some x => rw [hk] at rv; exact ⟨x, H3, I3.tok _, rv, q3 x hk⟩
  · have rv := rel.val k
    rw [hn] at rv
    have hk : valV kvs k = none := by
      cases hk : valV kvs k with
      | none => rfl
      | some x => rw [hk] at rv; exact rv.elim
    have he : ∃ q, h'.get? a = some q := let ⟨q, _, _, hq, _⟩ := dd'; ⟨q, hq⟩
    have hl' : (putK kvs k z).length ≤ sizeLine := leMil (by have := length_putK kvs k z; omega)
    exact ⟨z, _, d_write I3 (by rw [hd]; exact True.intro) hs he (dk_new hl' lo (rel.put k rz) dd'), rz, q4 hk⟩
end
end L2
set_option Elab.async false
set_option linter.all false
set_option maxRecDepth 100000
set_option maxHeartbeats 4000000
namespace SetT
open PySem PySem.SetTable PySem.Spec PyProof.Rows
variable {prog : Program} {w : World} {A : Around} {E : Value → Shared → Prop} {s : Shared}
end SetT
set_option Elab.async false
set_option linter.all false
set_option maxRecDepth 100000
set_option maxHeartbeats 4000000
namespace SetT
open PySem PySem.SetTable PySem.Spec PyProof.Rows
variable {prog : Program} {w : World} {A : Around} {E : Value → Shared → Prop} {s : Shared}
end SetT
set_option Elab.async false
set_option linter.all false
set_option maxRecDepth 100000
set_option maxHeartbeats 4000000
namespace L2
open PySem PySem.Spec PyProof.Rows
section
variable {X : Cx}
theorem pe_bmK {K : PySem.W.Frag} {o e : Expr} {es : List Expr} {to : TE} {t : TA} {name : Str} {apos cpos : Pos} {T : String} {r : V → List V → Hp → VK → Prop} (hK : X.K = K) (h : PE X (.Call (.Attribute o name apos) (e :: es) [] cpos) (tBM X.K T r to t)) : PE X (.Call (.Attribute o name apos) (e :: es) [] cpos) (tBM K T r to t) := hK ▸ h
end
end L2
set_option Elab.async false
set_option linter.all false
set_option maxRecDepth 100000
set_option maxHeartbeats 4000000
namespace L2
open PySem PySem.Spec PyProof.Rows
theorem FnOk.or {P : Program} {w : World} {K : PySem.W.Frag} {mg : Str → Option Value} {base : Heap} {CX : CXT} {k : Nat} {f : Addr} {fd : FuncData} {ps : List Str} {sp sp' : Sp} (a : FnOk P w K mg base CX k f fd ps sp) (b : FnOk P w K mg base CX k f fd ps sp') :
    FnOk P w K mg base CX k f fd ps (fun vs H Q E => sp vs H Q E ∨ sp' vs H Q E) :=
  ⟨fun vs H Q E h => h.elim (a.len vs H Q E) (b.len vs H Q E), fun A outer s H args us vs Q E hr he hb hv h => h.elim (a.run A outer s H args us vs Q E hr he hb hv) (b.run A outer s H args us vs Q E hr he hb hv)⟩
end L2
set_option Elab.async false
set_option linter.all false
set_option maxRecDepth 100000
set_option maxHeartbeats 4000000
namespace L2
open PySem PySem.Spec PyProof.Rows
def Its (x : Str) : It := ⟨fun i _ => i < x.cps.size, fun i H v H' => H' = H ∧ ∃ c, x.cps[i]? = some c ∧ v = .str ⟨#[c]⟩, fun i _ => x.cps.size ≤ i⟩
theorem turn_strA {P : Program} {w : World} {K : PySem.W.Frag} {tg : Expr} (it : Addr) (x : Str) (t : Tok) : Turn P w K tg (Its x) [it] it (fun i h => h.IsStrIter it "str_ascii_iterator" x t i) where
  mem := by simp
  obj := fun i h st b hb => by
    have e : b = it := by simpa using hb
    subst e
    obtain ⟨o, e, c, d⟩ := st
    exact ⟨o, e, fun v z => by rw [d] at z; cases z⟩
  keep := fun i h h' st k => let ⟨o, e, r⟩ := st; ⟨o, k it (by simp) o e, r⟩
  item := by
    intro X hP hw hK hc i pins s σ H E I hf st hg
    subst hP hw hK
    obtain ⟨f0, f1, f2, f3, f4, f5⟩ := hf it (by simp)
    have hx : x.cps[i]? = some (x.cps[i]'hg) := Array.getElem?_eq_getElem hg
    refine wpAny_pyNext_ascii_item st hx fun h' st' sb => ?_
    have I1 : Inv X pins σ H { s with heap := h', toks := s.toks + 1 } := I.turned (t' := s.toks + 1) (fun b o hb e => (sb.2 b hb).trans e) f0 f1 f3 f4 f5
    obtain ⟨o, e, c, d⟩ := id st'
    exact ⟨_, rfl, go_of (s := { s with heap := h', toks := s.toks + 1 }) e c d (by decide) ⟨.str ⟨#[x.cps[i]'hg]⟩, H, I1, ⟨_, rfl⟩, ⟨rfl, _, hx, rfl⟩, st', fun b hb => (hf b hb).1⟩⟩
  done := by
    intro X hP hw hK hc i pins s σ H E I hf st hg
    subst hP hw hK
    obtain ⟨f0, f1, f2, f3, f4, f5⟩ := hf it (by simp)
    exact wpAny_pyNext_ascii_end (I.ok.hd hc) st (Array.getElem?_eq_none hg) fun h' eb => ⟨rfl, I.turned (t' := s.toks) (fun b o hb e => eb b o hb e) f0 f1 f3 f4 f5⟩
  self := fun _ _ _ _ _ st h => wpAny_pyIter_striter_ascii st h
theorem turn_strW {P : Program} {w : World} {K : PySem.W.Frag} {tg : Expr} (it : Addr) (x : Str) (t : Tok) : Turn P w K tg (Its x) [it] it (fun i h => h.IsStrIter it "str_iterator" x t i) where
  mem := by simp
  obj := fun i h st b hb => by
    have e : b = it := by simpa using hb
    subst e
    obtain ⟨o, e, c, d⟩ := st
    exact ⟨o, e, fun v z => by rw [d] at z; cases z⟩
  keep := fun i h h' st k => let ⟨o, e, r⟩ := st; ⟨o, k it (by simp) o e, r⟩
  item := by
    intro X hP hw hK hc i pins s σ H E I hf st hg
    subst hP hw hK
    obtain ⟨f0, f1, f2, f3, f4, f5⟩ := hf it (by simp)
    have hx : x.cps[i]? = some (x.cps[i]'hg) := Array.getElem?_eq_getElem hg
    refine wpAny_pyNext_wide_item st hx fun h' st' sb => ?_
    have I1 : Inv X pins σ H { s with heap := h', toks := s.toks + 1 } := I.turned (t' := s.toks + 1) (fun b o hb e => (sb.2 b hb).trans e) f0 f1 f3 f4 f5
    obtain ⟨o, e, c, d⟩ := id st'
    exact ⟨_, rfl, go_of (s := { s with heap := h', toks := s.toks + 1 }) e c d (by decide) ⟨.str ⟨#[x.cps[i]'hg]⟩, H, I1, ⟨_, rfl⟩, ⟨rfl, _, hx, rfl⟩, st', fun b hb => (hf b hb).1⟩⟩
  done := by
    intro X hP hw hK hc i pins s σ H E I hf st hg
    subst hP hw hK
    obtain ⟨f0, f1, f2, f3, f4, f5⟩ := hf it (by simp)
    exact wpAny_pyNext_wide_end (I.ok.hd hc) st (Array.getElem?_eq_none hg) fun h' eb => ⟨rfl, I.turned (t' := s.toks) (fun b o hb e => eb b o hb e) f0 f1 f3 f4 f5⟩
  self := fun _ _ _ _ _ st h => wpAny_pyIter_striter_wide st h
section
variable {X : Cx}
def iStr (tl : TE) : TI := fun σ H R => tl σ H fun x H1 => ∃ z, x = .str z ∧ R (Its z) H1
theorem pi_str {tg l : Expr} {tl : TE} (hl : PE X l tl) : PI X tg l (iStr tl) := by
  intro pins s σ H R I h
  refine thn (hl pins s σ H _ I h) fun v s1 ⟨x, H1, I1, r1, q1⟩ => ?_
  obtain ⟨z, e, q⟩ := q1
  subst e
  obtain ⟨t, rfl⟩ := (show ∃ t, v = Value.str z t from r1)
  have fp : ∀ b ∈ [s1.heap.objs.size], FpOk X pins H1 b := fun b hb => by
    have e : b = s1.heap.objs.size := by simpa using hb
    subst e
    exact I1.fpOk (Nat.le_refl _) (I1.hok.fresh (Nat.le_refl _))
  cases ha : z.cps.all (· < 128)
  · exact wpAny_pyIter_wide ha ⟨s1.heap.objs.size, [s1.heap.objs.size], _, _, H1, rfl, I1.kept (t' := s1.toks) fun b o e => Heap.get?_push_of_some _ e, turn_strW _ z t, ⟨_, Heap.get?_push_size _ rfl, rfl, rfl⟩, fp, q⟩
  · exact wpAny_pyIter_ascii ha ⟨s1.heap.objs.size, [s1.heap.objs.size], _, _, H1, rfl, I1.kept (t' := s1.toks) fun b o e => Heap.get?_push_of_some _ e, turn_strA _ z t, ⟨_, Heap.get?_push_size _ rfl, rfl, rfl⟩, fp, q⟩
theorem lc_str {z : Str} {g : TG} {tt : TT} {te : TE} {σ : St} {H : Hp} {Q : VK} (Pv : Nat → List V → St → Hp → Prop) (hz : z.cps.size ≤ sizeLine) (h0 : Pv 0 [] σ H) (hl : ∀ i ys σ H, i ≤ z.cps.size → Pv i ys σ H → ys.length ≤ i)
    (hs : ∀ i c ys σ H, z.cps[i]? = some c → Pv i ys σ H → g (.str ⟨#[c]⟩) σ H fun σ3 H3 => tt σ3 H3 fun b H4 => if b = true then te σ3 H4 fun v H5 => Pv (i + 1) (ys ++ [v]) σ3 H5 else Pv (i + 1) ys σ3 H4)
    (hd : ∀ ys σ H, Pv z.cps.size ys σ H → ∀ p, H p = none → Q (.ref p) (upd H p (.lst ys))) :
    ∃ W : Nat → Nat → List V → St → Hp → Prop, (∃ m, W 0 m [] σ H) ∧ ∀ i m ys σ' H', W i m ys σ' H' →
      ((Its z).stop i H' ∧ ys.length ≤ sizeLine ∧ ∀ p, H' p = none → Q (.ref p) (upd H' p (.lst ys))) ∨
      ((Its z).go i H' ∧ ys.length < sizeLine ∧ ∃ N : List V → St → Hp → Prop, (∀ zs σ2 H2, N zs σ2 H2 → ∃ m', m' < m ∧ W (i + 1) m' zs σ2 H2) ∧ ∀ x H2, (Its z).yld i H' x H2 → g x σ' H2 fun σ3 H3 => tt σ3 H3 fun b H4 =>
        if b = true then te σ3 H4 fun v H5 => N (ys ++ [v]) σ3 H5 else N ys σ3 H4) := by
  refine ⟨fun i m ys σ H => m = z.cps.size - i ∧ i ≤ z.cps.size ∧ Pv i ys σ H, ⟨z.cps.size, by simp, Nat.zero_le _, h0⟩, ?_⟩
  rintro i m ys σ H ⟨rfl, hi, p⟩
  have ql := hl i ys σ H hi p
  by_cases hlt : i < z.cps.size
  · refine .inr ⟨hlt, by omega, Pv (i + 1), fun zs σ' H' p' => ⟨z.cps.size - (i + 1), by omega, rfl, hlt, p'⟩, fun x H' y => ?_⟩
    obtain ⟨e, c, hc, y⟩ := y
    subst e
    subst y
    exact hs i c ys σ _ hc p
  · have e : i = z.cps.size := by omega
    subst e
    exact .inl ⟨Nat.le_refl _, by omega, hd ys σ H p⟩
def tLCS (bs : List (Option Nat)) (tl : TE) (g : TG) (tt : TT) (te : TE) : TE := fun σ H Q => tl σ H fun x H1 => ∃ z : Str, x = .str z ∧ z.cps.size ≤ 100000 ∧ ∃ Pv : Nat → List V → St → Hp → Prop, Pv 0 [] (bst bs σ) H1 ∧
  (∀ i ys σ H, i ≤ z.cps.size → Pv i ys σ H → ys.length ≤ i) ∧
  (∀ i c ys σ H, z.cps[i]? = some c → Pv i ys σ H → g (.str ⟨#[c]⟩) σ H fun σ3 H3 => tt σ3 H3 fun b H4 => if b = true then te σ3 H4 fun v H5 => Pv (i + 1) (ys ++ [v]) σ3 H5 else Pv (i + 1) ys σ3 H4) ∧
  ∀ ys σ H, Pv z.cps.size ys σ H → ∀ p H', Same H H' → H' p = some (.lst ys) → Q (.ref p) H'
theorem pe_lcS {scope : Scope} {cl : List (Str × Addr)} {N : List Str} {bs : List (Option Nat)} {tg iter elt : Expr} {ifs : List Expr} {pos : Pos} {tl : TE} {g : TG} {tt : TT} {te : TE} (B : Blk X scope cl N bs) (hc : X.calm = true)
    (hl : PE X iter tl) (hm : MonoE tl) (hg : ∀ C fp s H, PG (cxBlk X scope cl C N fp s H) tg g) (ht : ∀ C fp s H, PTs (cxBlk X scope cl C N fp s H) ifs tt) (he : ∀ C fp s H, PE (cxBlk X scope cl C N fp s H) elt te)
    (hs : ∀ x, foldedSetIterable iter X.env x = pure x := by intro _; rfl) : PE X (.ListComp elt [⟨tg, iter, ifs, 0⟩] scope pos) (tLCS bs tl g tt te) := by
  intro pins s σ H Q I h
  refine @pe_lc X scope cl N bs tg iter elt ifs pos (iStr tl) g tt te B hc (pi_str hl) hg ht he hs pins s σ H Q I ?_
  refine hm σ H _ _ (fun x H1 h => ?_) h
  obtain ⟨z, e, hz, Pv, p0, pl, ps, pd⟩ := h
  exact ⟨z, e, lc_str (Q := Q) Pv (leMil hz) p0 pl ps fun ys σ H hp p hpn => pd ys σ H hp p _ (same_add hpn) upd_same⟩
theorem vals_strs : ∀ (l : List (Str × Tok)), Vals ((l.map (·.1)).map V.str) (strValues l)
  | [] => .nil
  | (_, t) :: l => .cons ⟨t, rfl⟩ (vals_strs l)
theorem strsAre_of : ∀ {ts : List Str} {us : List Value}, Vals (ts.map V.str) us → StrsAre us ts
  | [], _, h => by cases h; exact .nil
  | a :: ts, _, h => by
    cases h with
    | cons r h =>
      obtain ⟨t, rfl⟩ := (show ∃ t, _ = Value.str a t from r)
      exact .cons a t (strsAre_of h)
theorem split_at {prog : Program} {w : World} {A : Around} {E : Value → Shared → Prop} {s : Shared} {x y : Str} {t u : Tok} {Q : Value → Shared → Prop} (hy : (y.length == 0) = false)
    (hq : ∀ l k, l.map (·.1) = Txt.split x y → Q (.ref s.heap.objs.size) { s with heap := s.heap.push { cls := .type "list", data := .seq (strValues l).toArray }, toks := k })
    (hsz : x.length ≤ sizeLine) (hsz2 : (Builtin.Str.partsBetween x (Builtin.Str.occurrences x y 0 x.length (x.length + 1)) y.length).length ≤ sizeLine) :
    wpAny (model prog w) A (call (.builtin "str.split") [.str x t, .str y u]) Q E s := by
  cases h1 : (decide (x.length < y.length) || decide (Builtin.Str.strKind x < Builtin.Str.strKind y))
  · cases hf : (Builtin.Str.occurrences x y 0 x.length (x.length + 1)).isEmpty
    · refine call_meets PySem.F.slot_str_split (typeIs_str _ _ _) PySem.F.entry_str_split (PySem.F.args_str_split_2 _ _) (meets_str_split_sep x y t u h1 hy hf hsz hsz2) ?_
      show wants Q E _ { s with toks := _, heap := s.heap.push { cls := .type "list", data := .seq (strsFrom s.toks (Builtin.Str.partsBetween x (Builtin.Str.occurrences x y 0 x.length (x.length + 1)) y.length)).toArray } }
      rw [strsFrom_eq]
      exact hq (numbered s.toks _) _ ((numbered_texts _ _).trans ((if_neg (ne_true_of_eq_false h1)).trans (if_neg (ne_true_of_eq_false hf))).symm)
    · exact call_meets PySem.F.slot_str_split (typeIs_str _ _ _) PySem.F.entry_str_split (PySem.F.args_str_split_2 _ _) (meets_str_split_not_found x y t u h1 hy hf)
        (hq [(x, t)] s.toks ((if_neg (ne_true_of_eq_false h1)).trans (if_pos hf)).symm)
  · exact call_meets PySem.F.slot_str_split (typeIs_str _ _ _) PySem.F.entry_str_split (PySem.F.args_str_split_2 _ _) (meets_str_split_cannot_occur x y t u h1)
      (hq [(x, t)] s.toks (if_pos h1).symm)
def rSplit : V → List V → Hp → VK → Prop := fun x vs H Q => ∃ z y : Str, x = .str z ∧ vs = [.str y] ∧ 0 < y.length ∧ z.length ≤ 100000 ∧ (Txt.split z y).length ≤ 100000 ∧ (Builtin.Str.partsBetween z (Builtin.Str.occurrences z y 0 z.length (z.length + 1)) y.length).length ≤ 200000 ∧ ∀ l H', Same H H' → H' l = some (.lst ((Txt.split z y).map V.str)) → Q (.ref l) H'
theorem mt_split : MtR X "str.split" rSplit := by
  intro pins s σ H x vs v us Q I rx rv h
  obtain ⟨z, y, rfl, rfl, hy, hz, hl, hp, q⟩ := h
  obtain ⟨t, rfl⟩ := (show ∃ t, v = Value.str z t from rx)
  obtain ⟨u, rfl, ru⟩ := rv.one
  obtain ⟨t', rfl⟩ := (show ∃ t, u = Value.str y t from ru)
  refine split_at (by rw [beq_eq_false_iff_ne]; omega) (fun l k e => ?_) (leMil hz) (Nat.le_trans hp (by rw [sizeLine_eq]; decide))
  rw [← e] at q hl
  exact ⟨.ref s.heap.objs.size, _, I.laid (t' := k) (o := .lst ((l.map (·.1)).map V.str)) (fun b ob q => Heap.get?_push_of_some _ q) (Nat.le_refl _) ⟨by rw [List.length_map]; exact leMil hl, _, 0, vals_strs l, Heap.get?_push_size _ rfl⟩, rfl, q _ _ (same_add (I.hok.fresh (Nat.le_refl _))) upd_same⟩
def rJoin (K : PySem.W.Frag) : V → List V → Hp → VK → Prop := fun x vs H Q => ∃ (sep : Str) (l : Addr) (ts : List Str), x = .str sep ∧ vs = [.ref l] ∧ SqL K H l (ts.map V.str) ∧ sep.length ≤ 16 ∧ (ts.map (·.length)).sum + ts.length ≤ 1048576 ∧ Q (.str (Str.join sep ts)) H
theorem mt_join : MtR X "str.join" (rJoin X.K) := by
  intro pins s σ H x vs v us Q I rx rv h
  obtain ⟨sep, l, ts, rfl, rfl, hl, hs, hw, q⟩ := h
  obtain ⟨t, rfl⟩ := (show ∃ t, v = Value.str sep t from rx)
  obtain ⟨u, rfl, ru⟩ := rv.one
  cases ru
  obtain ⟨its, r, pl, hz⟩ := I.list hl
  refine join_listW pl.isList (strsAre_of (by simpa using r)) hs hw fun t' k => ?_
  rw [show Txt.join sep ts = Str.join sep ts from PySem.StrLaws.glued_eq_join sep ts]
  exact ⟨.str _, H, I.tok k, ⟨_, rfl⟩, q⟩
end
end L2
set_option Elab.async false
set_option linter.all false
set_option maxRecDepth 100000
set_option maxHeartbeats 4000000
namespace L2
open PySem PySem.Spec PyProof.Rows
section
variable {X : Cx}
theorem call_intT : CallR X (.type "int") (fun xs H Q => ∃ n : Int, xs = [.str (Str.ofString (toString n))] ∧ 0 ≤ n ∧ n < 10 ^ 10 ∧ Q (.int n) H) := by
  intro pins s σ H xs us Q I r h
  obtain ⟨n, rfl, h0, h1, q⟩ := h
  obtain ⟨u, rfl, rx⟩ := vals1 r
  obtain ⟨t, rfl⟩ := (show ∃ t, u = Value.str _ t from rx)
  exact PySem.W.KIN.call_num h0 h1 ⟨.int n, H, I.tok _, ⟨_, rfl⟩, q⟩
theorem op_mulS : OpR X (binaryOp .Mult) (fun x y H Q => ∃ (z : Str) (n : Int), x = .str z ∧ y = .int n ∧ z.length ≤ 1000 ∧ -1000 ≤ n ∧ n ≤ 1000 ∧ Q (.str (Txt.mul z n)) H) := by
  intro pins s σ H x y v u Q I r1 r2 h
  obtain ⟨z, n, e1, e2, hz, h0, h1, q⟩ := h
  subst e1; subst e2
  obtain ⟨t, rfl⟩ := r1
  obtain ⟨t', rfl⟩ := r2
  refine SB.mul ⟨?_, fun _ _ => ?_, fun _ _ => ?_⟩ fun t' k => ⟨.str _, H, I.tok k, ⟨_, rfl⟩, q⟩
  · rw [Bool.or_eq_false_iff]
    exact ⟨decide_eq_false (by omega), decide_eq_false (by omega)⟩
  · have hn : 0 < n := by omega
    have : (1000 : Int) ≤ (2 ^ 63 - 1) / n := (Int.le_ediv_iff_mul_le hn).mpr (by omega)
    omega
  · have : z.length * n.toNat ≤ 1000 * 1000 := Nat.mul_le_mul hz (by omega)
    unfold Builtin.Str.tooLong
    have hs := sizeLine_eq
    exact decide_eq_false (by omega)
end
section
variable {prog : Program} {w : World} {A : Around} {E : Value → Shared → Prop} {s : Shared}
theorem draw_list {it t : Addr} {items : Array Value} (hne : t ≠ it) : ∀ (n i : Nat) (s : Shared) (Q : List Value → Shared → Prop), s.heap.IsListIter it t i → s.heap.IsList t items → i + n ≤ items.size →
    (∀ h', h'.IsListIter it t (i + n) → Heap.SameBut it s.heap h' → Q ((items.toList.drop i).take n) { s with heap := h' }) → wpAny (model prog w) A (draw (.ref it) n) Q E s
  | 0, i, s, Q, hit, _, _, hQ => by
    show wpAny _ _ (pure []) Q E s
    exact wpAny_pure (by simpa using hQ s.heap hit (Heap.SameBut.refl ..))
  | n + 1, i, s, Q, hit, ht, hle, hQ => by
    have hlt : i < items.size := by omega
    show wpAny _ _ (pyNext (.ref it) >>= _) Q E s
    refine wpAny_bind (wpAny_pyNext_list_item hit ht (x := items[i]) (by simp [hlt]) fun h₁ hit₁ hs₁ => ?_)
    refine wpAny_bind (wpAny_holding (draw_list hne n (i + 1) _ _ hit₁ (ht.extBut hs₁.extBut hne) (by omega) fun h₂ hit₂ hs₂ => wpAny_pure ?_))
    have hd : items.toList.drop i = items[i] :: items.toList.drop (i + 1) := by simp [List.drop_eq_getElem_cons, hlt]
    have := hQ h₂ (by rw [show i + (n + 1) = i + 1 + n by omega]; exact hit₂) (hs₁.trans hs₂)
    rw [hd, List.take_succ_cons] at this
    exact this
theorem unpackItems_list {t : Addr} {items : Array Value} {Q : List Value → Shared → Prop} (hh : A.handled = none) (ht : s.heap.IsList t items)
    (hQ : ∀ h', Heap.ExtBut s.heap.objs.size s.heap h' → Q items.toList { s with heap := h' }) : wpAny (model prog w) A (unpackItems (.ref t) items.size none) Q E s := by
  have hlt : t ≠ s.heap.objs.size := by obtain ⟨o, ho, _⟩ := ht; exact Nat.ne_of_lt (Heap.lt_size ho)
  unfold unpackItems
  refine wpAny_bind ?_
  unfold notIterableAtAll
  refine wpAny_bind (wpAny_specialOf ht.typeIs PySem.F.slot_list_iter.lookup ?_)
  refine wpAny_pure ?_
  simp only [Bool.false_eq_true, if_false]
  refine wpAny_bind (wpAny_holding (wpAny_pyIter_list ht ?_))
  refine wpAny_bind (wpAny_holding (draw_list hlt items.size 0 _ _ ⟨_, Heap.get?_push_size _ rfl, rfl, rfl⟩ (ht.push _) (by omega) fun h₁ hit₁ hs₁ => ?_))
  have hall : List.take items.size (List.drop 0 items.toList) = items.toList := by
    rw [List.drop_zero]; exact List.take_of_length_le (by simp)
  rw [hall]
  rw [if_neg (by simp)]
  have ht₁ : h₁.IsList t items := (ht.push _).extBut hs₁.extBut hlt
  refine wpAny_bind (wpAny_holding (wpAny_pyNext_list_end hh hit₁ ht₁ (by simp) fun h₂ he₂ => ?_))
  simp only [Option.isSome_none, Bool.false_eq_true, if_false]
  exact wpAny_pure (hQ h₂ fun b o hb e => he₂ b o hb (hs₁.extBut b o hb (Heap.get?_push_of_some _ e)))
theorem assign_Tuple_list {env : Env} {elts : List Expr} {x1} {pos : Pos} {t : Addr} {items : Array Value} {Q : Unit → Shared → Prop} (hh : A.handled = none) (ht : s.heap.IsList t items)
    (hn : (assignEach elts env).length = items.size) (hstar : (assignEach elts env).findIdx? (·.1) = none)
    (h : ∀ h', Heap.ExtBut s.heap.objs.size s.heap h' → wpAny (model prog w) A (assignInOrder ((assignEach elts env).map (·.2)) items.toList) Q E { s with heap := h' }) :
    wpAny (model prog w) A (assign (.Tuple elts x1 pos) env (.ref t)) Q E s := by
  rw [assign_Tuple]
  refine wpAny_bind (wpAny_standAt ?_)
  unfold unpack
  rw [hn, hstar]
  exact wpAny_bind (wpAny_holding (unpackItems_list hh ht h))
end
section
variable {X : Cx}
def gLst (K : PySem.W.Frag) (n : Nat) (t : TGs) : TG := fun v σ H Q => ∃ a xs, v = .ref a ∧ SqL K H a xs ∧ xs.length = n ∧ t xs σ H Q
theorem pg_lst {es : List Expr} {k : Nat} {t : TGs} {n : Nat} {pos : Pos} (hc : X.calm = true) (h : PGs X es t)
    (hn : (assignEach es X.env).length = n := by rfl) (hst : (assignEach es X.env).findIdx? (·.1) = none := by rfl) : PG X (.Tuple es k pos) (gLst X.K n t) := by
  intro pins s σ H v u Q I r hw
  obtain ⟨a, xs, e1, hq, hl, hw⟩ := hw
  subst e1
  cases r
  obtain ⟨its, rv, ht, hz⟩ := I.list hq
  refine assign_Tuple_list (I.ok.hd hc) ht.isList (by simp [hn, ← hl, rv.length]) hst fun h' hx => ?_
  have I1 : Inv X pins σ H { s with heap := h' } := I.kept (t' := s.toks) fun b o e => hx b o (Nat.ne_of_lt (Heap.lt_size e)) e
  exact h pins _ σ H xs _ Q I1 (by simpa using rv) hw
end
end L2
namespace PySem.W
open PySem PySem.Spec PySem.Calls PyProof.Rows PyProof.V
section
variable {prog : Program} {w : World} {A : Around} {E : Value → Shared → Prop} {s : Shared} {r d : Addr} {n : Nat} {P : Nat → Value → Prop} {OK : Heap → Prop}
theorem meets_tuple_new_dict (K : KdlSrc prog w "dict" r d n P OK) (hn : n ≤ sizeLine) :
    MeetsIn prog w (Builtin.«tuple.__new__» ⟨[.type "tuple", .ref r], []⟩)
      (fun A R s => A.handled = none ∧ OK s.heap ∧ ∀ (h' : Heap) (tk : Nat) (acc : Array Value), (∀ b o, s.heap.get? b = some o → h'.get? b = some o) → ItemsOf P acc n →
        R (.ok (.ret (.ref h'.objs.size))) { s with heap := h'.push { cls := .type "tuple", data := .seq acc }, toks := tk }) :=
  MeetsIn.of_wp fun A R s h => by
    obtain ⟨hh, hok, h⟩ := h
    have hsub := sub_tuple_self
    have hinit := init_tuple_lookup
    have hmh := madeHere_tuple
    have hT : s.TypeIs (.ref r) "dict" := K.type s hok
    have hh1 : A.in1.handled = none := hh
    wp_walk using wpAny_typeOf hT, dcollect K hh1 hok hn
    intro h' tk acc hk hsz hacc
    show wpAny _ _ (Builtin.Tuple.tupleExact acc.toList.toArray >>= fun v => ret v) _ _ _
    unfold Builtin.Tuple.tupleExact
    refine wpAny_bind (wpAny_newObj_type ?_ (show acc.toList.toArray.size ≤ sizeLine by simp only [Array.toArray_toList]; rw [hacc.1]; exact hn))
    refine wpAny_pure ⟨_, rfl, ?_⟩
    have e : acc.toList.toArray = acc := by simp
    rw [e]
    exact h h' tk acc hk hacc
theorem call_tuple_dict {Q : Value → Shared → Prop} (K : KdlSrc prog w "dict" r d n P OK) (hh : A.handled = none) (hok : OK s.heap) (hn : n ≤ sizeLine)
    (h : ∀ (h' : Heap) (tk : Nat) (acc : Array Value), (∀ b o, s.heap.get? b = some o → h'.get? b = some o) → ItemsOf P acc n → Q (.ref h'.objs.size) { s with heap := h'.push { cls := .type "tuple", data := .seq acc }, toks := tk }) :
    wpAny (model prog w) A (call (.type "tuple") [.ref r]) Q E s :=
  callType_newIn PySem.F.called_tuple (by decide) (PySem.F.typeCall_tuple_1 _) (PySem.F.newCall_tuple_1 _) (fun obj => PySem.F.args_object_init_2 obj _) PySem.F.entry_tuple_new
    (meets_tuple_new_dict K hn) ⟨hh, hok, fun h' tk acc hk hacc => ⟨⟨_, Heap.get?_push_size _ rfl, rfl⟩, h h' tk acc hk hacc⟩⟩
end
end PySem.W
namespace L2
open PySem PySem.Spec PyProof.Rows
theorem key_rel {P : Program} {w : World} {k : Key} {u : Value} (h : (mixKind P w).is k u = true) : RelV (kV k) u := by
  cases k with
  | inl i =>
    obtain ⟨t, e⟩ := Value.isInt_shape (k := i) (v := u) h
    exact ⟨t, e⟩
  | inr z =>
    cases u with
    | str y t =>
      have e : y = z := eq_of_beq h
      exact ⟨t, by rw [e]⟩
    | _ => exact absurd (show false = true from h) (by decide)
section
variable {X : Cx}
theorem kv_keys : ∀ {kvs : List (Key × V)} {vs : List (Key × Value)}, KV kvs vs → vs.map (·.1) = kvs.map (·.1) := by
  intro kvs vs r
  induction r with
  | nil => rfl
  | cons h _ ih => rw [List.map_cons, List.map_cons, ih, h.1]
theorem vals_by : ∀ (xs : List V) (us : List Value), us.length = xs.length → (∀ (i : Nat) x u, xs[i]? = some x → us[i]? = some u → RelV x u) → Vals xs us
  | [], [], _, _ => .nil
  | [], _ :: _, h, _ => by cases h
  | _ :: _, [], h, _ => by cases h
  | x :: xs, u :: us, h, r => .cons (r 0 x u rfl rfl) (vals_by xs us (by simpa using h) fun i x' u' a b => r (i + 1) x' u' a b)
def rTupD : List V → Hp → VK → Prop := fun xs H Q => ∃ d, ∃ kvs : List (Key × V), xs = [.ref d] ∧ H d = some (.dK kvs) ∧ kvs.length ≤ 100000 ∧ ∀ p H', Same H H' → H' p = some (.tup (kvs.map fun kv => kV kv.1)) → Q (.ref p) H'
theorem call_tupleD {k : Nat} (hr : Room k X.A) : CallR X (.type "tuple") rTupD := by
  intro pins s σ H xs us Q I r h
  obtain ⟨d, kvs, rfl, hd, hn, q⟩ := h
  obtain ⟨u, rfl, rx⟩ := vals1 r
  cases (show u = Value.ref d from rx)
  obtain ⟨z, lo, vs, rel, dd⟩ := dk_of I.hok hd
  have hvl : kvs.length = vs.length := Paired.length rel
  obtain ⟨ep, hat⟩ := dd.dictAt
  refine PySem.W.call_tuple_dict (PySem.W.kdl_dict (knd := mixKind X.prog X.w) (kvs := vs) (ep := ep) lo) hr.hd hat (leMil (by omega)) fun h' tk acc hk hacc => ?_
  have I1 : Inv X pins σ H { s with heap := h', toks := tk } := I.kept (t' := tk) hk
  have hlen : acc.toList.length = (kvs.map fun kv => kV kv.1).length := by rw [Array.length_toList, List.length_map, hacc.1, hvl]
  have hv : Vals (kvs.map fun kv => kV kv.1) acc.toList := vals_by _ _ hlen fun i x u hx hu => by
    obtain ⟨k', x', e, ek⟩ := hacc.2 i u (by rw [← Array.getElem?_toList]; exact hu)
    have h1 : (vs.map (·.1))[i]? = some k' := by rw [List.getElem?_map, e]; rfl
    rw [kv_keys rel, List.getElem?_map] at h1
    rw [List.getElem?_map] at hx
    cases hq : kvs[i]? with
    | none => rw [hq] at hx; cases hx
    | some kv =>
      rw [hq] at hx h1
      cases hx
      cases h1
      exact key_rel ek
  refine ⟨.ref h'.objs.size, _, Inv.laid (s := { s with heap := h', toks := tk }) I1 (t' := tk) (o := .tup (kvs.map fun kv => kV kv.1)) (fun b o e => Heap.get?_push_of_some _ e) (Nat.le_refl _) ?_, rfl, q _ _ (same_add (I1.hok.fresh (Nat.le_refl _))) upd_same⟩
  refine ⟨by rw [List.length_map]; exact leMil hn, acc.toList, hv, ?_⟩
  have := IsTup.new h' acc
  rw [Array.toArray_toList]
  exact this
end
end L2
set_option Elab.async false
set_option linter.all false
set_option maxRecDepth 100000
set_option maxHeartbeats 4000000
namespace Tx
open PySem
theorem sext {z y : Str} (h : z.cps.toList = y.cps.toList) : z = y := by
  cases z; cases y
  simp only [Str.mk.injEq]
  exact Array.toList_inj.mp h
theorem app_cps (a b : Str) : (a ++ b).cps.toList = a.cps.toList ++ b.cps.toList := by
  show (a.cps ++ b.cps).toList = _
  simp
theorem join_one (s a : Str) : Str.join s [a] = a := rfl
theorem join_two (s a b : Str) (l : List Str) : Str.join s (a :: b :: l) = a ++ s ++ Str.join s (b :: l) := rfl
theorem cut_one {c : Nat} : ∀ {a a' r r' : List Nat}, c ∉ a → c ∉ a' → a ++ c :: r = a' ++ c :: r' → a = a' ∧ r = r'
  | [], [], _, _, _, _, h => ⟨rfl, (List.cons.inj h).2⟩
  | [], x :: a', _, _, _, h2, h => absurd (List.cons.inj h).1 fun e => h2 (by rw [e]; exact List.mem_cons_self)
  | x :: a, [], _, _, h1, _, h => absurd (List.cons.inj h).1 fun e => h1 (by rw [← e]; exact List.mem_cons_self)
  | x :: a, y :: a', r, r', h1, h2, h => by
    obtain ⟨e1, e2⟩ := List.cons.inj h
    obtain ⟨e3, e4⟩ := cut_one (fun m => h1 (List.mem_cons_of_mem _ m)) (fun m => h2 (List.mem_cons_of_mem _ m)) e2
    exact ⟨by rw [e1, e3], e4⟩
theorem join_cps (c : Nat) (a b : Str) (l : List Str) : (Str.join ⟨#[c]⟩ (a :: b :: l)).cps.toList = a.cps.toList ++ c :: (Str.join ⟨#[c]⟩ (b :: l)).cps.toList := by
  rw [join_two, app_cps, app_cps]
  simp
theorem join_inj (c : Nat) : ∀ (l l' : List Str), l ≠ [] → l' ≠ [] → (∀ p ∈ l, c ∉ p.cps.toList) → (∀ p ∈ l', c ∉ p.cps.toList) → Str.join ⟨#[c]⟩ l = Str.join ⟨#[c]⟩ l' → l = l'
  | [], _, h, _, _, _, _ => absurd rfl h
  | _ :: _, [], _, h, _, _, _ => absurd rfl h
  | [a], [b], _, _, _, _, h => by rw [join_one, join_one] at h; rw [h]
  | [a], b :: b' :: l', _, _, f, _, h => by
    have e := congrArg (fun z : Str => z.cps.toList) h
    rw [join_cps, join_one] at e
    exact absurd (by rw [e]; simp) (f a (by simp))
  | a :: a' :: l, [b], _, _, _, f, h => by
    have e := congrArg (fun z : Str => z.cps.toList) h
    rw [join_cps, join_one] at e
    exact absurd (by rw [← e]; simp) (f b (by simp))
  | a :: a' :: l, b :: b' :: l', _, _, f, f', h => by
    have e := congrArg (fun z : Str => z.cps.toList) h
    rw [join_cps, join_cps] at e
    obtain ⟨e1, e2⟩ := cut_one (f a (by simp)) (f' b (by simp)) e
    rw [sext e1, join_inj c (a' :: l) (b' :: l') (by simp) (by simp) (fun p m => f p (List.mem_cons_of_mem _ m)) (fun p m => f' p (List.mem_cons_of_mem _ m)) (sext e2)]
theorem split_ne (x y : Str) : Txt.split x y ≠ [] := fun e => by
  have := PyProof.Rows.split_pos x y
  rw [e] at this
  exact absurd this (by decide)
theorem split_join (c : Nat) (l : List Str) (h : l ≠ []) (f : ∀ p ∈ l, c ∉ p.cps.toList) : Txt.split (Str.join ⟨#[c]⟩ l) ⟨#[c]⟩ = l :=
  join_inj c _ _ (split_ne _ _) h (StrLaws.split_free _ c) f (StrLaws.join_split _ _)
theorem parts_le (x y : Str) : (Builtin.Str.partsBetween x (Builtin.Str.occurrences x y 0 x.length (x.length + 1)) y.length).length ≤ x.length + 2 := by
  rw [PyProof.Rows.len_partsBetween]
  have := StrLaws.occ_length_le x y 0 x.length (x.length + 1)
  omega
theorem len_app (a b : Str) : (a ++ b).length = a.length + b.length := by
  show (a.cps ++ b.cps).size = _
  simp [Str.length]
abbrev letters : Str := Str.ofString "abcdefghijklmnopqrstuvwxyz"
abbrev figures : Str := Str.ofString "0123456789"
def wordB (signs : Str) (most : Int) (z : Str) : Bool := decide (1 ≤ (z.length : Int)) && (decide ((z.length : Int) ≤ most) && z.cps.toList.all fun c => decide (c ∈ signs.cps.toList))
def nameB (z : Str) : Bool := wordB letters 8 z
def zero : Str := Str.ofString "0"
def hourB (z : Str) : Bool := wordB figures 3 z && (decide (z = zero) || !decide (z.cps.toList.head? = some 48))
def num (n : Int) : Str := Str.ofString (toString n)
theorem hour_all : ∀ n : Fin 1000, (hourB (num (n.val : Int)) && (num (n.val : Int)).cps.toList.all (fun c => c != 32 && c != 10)) = true := by decide +kernel
theorem lett_all : ∀ c ∈ letters.cps.toList, (c != 32 && c != 10) = true := by decide +kernel
theorem lett_at : ∀ i : Fin 26, letters.cps.toList[i.val]? = some (97 + i.val) ∧ 97 + i.val ∈ letters.cps.toList := by decide +kernel
end Tx
set_option maxHeartbeats 4000000
namespace RX
open PySem PySem.Spec PyProof.Rows
def TrD (h base : Heap) (e : Addr) (cls : Value) (od : Option Addr) (fl : Value) : Prop :=
  ∃ oe vs T oT ts, h.get? e = some oe ∧ (oe.cls = cls ∧ oe.dict = od) ∧ oe.data = .fields vs ∧ vs[1]? = some (.ref T) ∧ base.get? T = none ∧ T ≠ e ∧ h.get? T = some oT ∧ oT.data = .fields ts ∧ ts[3]? = some fl
structure Fl (base : Heap) (l : List Env) (e : Addr) (cls : Value) (od : Option Addr) (fl : Value) (h : Heap) : Prop where
  stays : base.StaysIn h
  new : base.get? e = none
  frames : h.FunFrames base l
  trace : TrD h base e cls od fl
theorem dict_mapFields (f : Array Value → Array Value) (o : Obj) : (o.mapFields f).dict = o.dict := by
  unfold Obj.mapFields
  split <;> rfl
section
variable {M : Model} {A : Around} {E : Value → Shared → Prop} {s : Shared} {base : Heap} {env : Env} {outer l : List Env} {L e : Addr} {cls fl : Value} {od : Option Addr} {Q : Unit → Shared → Prop}
theorem entry_at {oe : Obj} {vs : Array Value} {head : Value} {hadNext : Bool}
    (hfr : A.frames = some (env :: outer)) (hl : s.heap.FunFrames base (env :: outer)) (hf : env.frame = some L)
    (he : s.heap.get? e = some oe) (hkb : base.StaysIn s.heap) (hen : base.get? e = none) (hd : oe.data = .fields vs) (hsz : 1 < vs.size)
    (h : ∀ h', Fl base (env :: outer) e oe.cls oe.dict (rawInt L) h' → s.heap.UpToSlots h' → Q () { s with heap := h' }) :
    wpAny M A (do let a ← frameOf env; let pl ← entryPlaceOf L hadNext; let b ← EntryCells.newEntry head a .none (rawInt L) .none pl; setField (.ref e) 1 b) Q E s := by
  have out : e ∉ (env :: outer).filterMap (·.frame) := fun hm => by
    obtain ⟨_, o, ho, hnf⟩ := hl.mem hm
    rw [he] at ho; injection ho with ho; subst ho; exact hnf vs hd
  refine wpAny_bind (wpAny_frameOf_fun hfr hl hf fun h₁ hs₁ => ?_)
  refine wpAny_bind (wpAny_entryPlaceOf fun pl hpl => ?_)
  unfold EntryCells.newEntry newFields
  refine wpAny_bind (wpAny_newObj_type ?_ (hpl.sizeOk5 _ _ _ _ _))
  have he₁ : h₁.get? e = some oe := (hs₁.2.1 e out).trans he
  have kb₁ : base.StaysIn h₁ := fun b o hbo => (hs₁.2.1 b fun hm => by rw [(hl.mem hm).1] at hbo; cases hbo).trans (hkb b o hbo)
  generalize hot : ({ cls := .type "traceback", dict := none, data := .fields ([head, .ref L, .none, rawInt L, .none] ++ (if pl.isEmpty then List.replicate 6 Value.none else pl)).toArray } : Obj) = ot
  have hotd : ot.data = .fields ([head, .ref L, .none, rawInt L, .none] ++ (if pl.isEmpty then List.replicate 6 Value.none else pl)).toArray := by rw [← hot]
  have hotf : ot.isFreed = false := by rw [← hot]; rfl
  have he₂ := Heap.get?_push_of_some (h := h₁) ot he₁
  refine wpAny_setField he₂ hd hsz ?_
  have hTe : h₁.objs.size ≠ e := Nat.ne_of_gt (Heap.lt_size he₁)
  have hd₃ := Obj.data_mapFields hd (·.setIfInBounds 1 (Value.ref h₁.objs.size))
  have he₃ := Heap.get?_update_self (Obj.mapFields (·.setIfInBounds 1 (Value.ref h₁.objs.size))) he₂ (Obj.isFreed_of_fields hd₃)
  have hT₃ := (Heap.get?_update_other (h₁.push ot) (Obj.mapFields (·.setIfInBounds 1 (Value.ref h₁.objs.size))) (Ne.symm hTe)).trans (Heap.get?_push_size h₁ hotf)
  have keep : ∀ b o, b ≠ e → h₁.get? b = some o → ((h₁.push ot).update e (Obj.mapFields (·.setIfInBounds 1 (Value.ref h₁.objs.size)))).get? b = some o := fun b o hbe hb => by
    rw [Heap.get?_update_other _ _ (Ne.symm hbe)]
    exact Heap.get?_push_of_some _ hb
  have notE : ∀ b o, s.heap.get? b = some o → (∀ vs, o.data ≠ .fields vs) → b ≠ e := fun b o hb hnf q => by
    rw [q, he] at hb; injection hb with hb; subst hb; exact hnf vs hd
  refine h _ ⟨fun b o hbo => keep b o (fun q => by rw [q, hen] at hbo; cases hbo) (kb₁ b o hbo), hen, hl.of_keeps fun b o hb hnf => ?_, ?_⟩ fun b o hb hnf => ?_
  · obtain ⟨sl, hs⟩ := hs₁.2.2 b o hb
    exact ⟨_, keep b _ (notE b o hb hnf) hs, rfl⟩
  · exact ⟨_, _, h₁.objs.size, _, _, he₃, ⟨Obj.cls_mapFields _ _, dict_mapFields _ _⟩, hd₃, by simp [hsz], kb₁.fresh, hTe, hT₃, hotd, by first | (simp; done) | (rcases hpl with rfl | ⟨_, _, _, _, _, _, _, rfl⟩ <;> simp)⟩
  · obtain ⟨sl, hs⟩ := hs₁.2.2 b o hb
    exact ⟨sl, keep b _ (notE b o hb hnf) hs⟩
theorem note_first {oe : Obj} {vs : Array Value} (hfr : A.frames = some (env :: outer)) (hl : s.heap.FunFrames base (env :: outer)) (hf : env.frame = some L)
    (he : s.heap.get? e = some oe) (hkb : base.StaysIn s.heap) (hen : base.get? e = none) (hd : oe.data = .fields vs) (h1 : vs[1]? = some .none)
    (h : ∀ h', Fl base (env :: outer) e oe.cls oe.dict (rawInt L) h' → s.heap.UpToSlots h' → Q () { s with heap := h' }) : wpAny M A (noteFrame (.ref e) env) Q E s := by
  unfold noteFrame
  simp only [hf]
  refine wpAny_bind (wpAny_field he hd h1 ?_)
  rw [if_neg (by decide)]
  exact entry_at hfr hl hf he hkb hen hd (Array.getElem?_eq_some_iff.mp h1).1 h
theorem note_on (hfr : A.frames = some (env :: outer)) (hf : env.frame = some L) (x : Fl base (env :: outer) e cls od .none s.heap)
    (h : ∀ h', Fl base (env :: outer) e cls od (rawInt L) h' → s.heap.UpToSlots h' → Q () { s with heap := h' }) : wpAny M A (noteFrame (.ref e) env) Q E s := by
  obtain ⟨hkb, hen, hl, oe, vs, T, oT, ts, he, ⟨hc, hdd⟩, hd, h1, hnT, hTe, hT, hdT, h3⟩ := x
  subst hc hdd
  unfold noteFrame
  simp only [hf]
  refine wpAny_bind (wpAny_field he hd h1 ?_)
  rw [if_pos (show (Value.ref T != Value.none) = true from by simp)]
  refine wpAny_bind (wpAny_field hT hdT h3 ?_)
  rw [if_neg (show ¬ ((Value.none == rawInt L) = true) from by simp [rawInt])]
  refine wpAny_bind (wpAny_setField hT hdT (Array.getElem?_eq_some_iff.mp h3).1 ?_)
  have other : ∀ b, b ≠ T → (s.heap.update T (Obj.mapFields (·.setIfInBounds 3 Value.none))).get? b = s.heap.get? b := fun b hb => Heap.get?_update_other _ _ (Ne.symm hb)
  have notT : ∀ b o, s.heap.get? b = some o → (∀ vs, o.data ≠ .fields vs) → b ≠ T := fun b o hb hnf q => by
    rw [q, hT] at hb; injection hb with hb; subst hb; exact hnf ts hdT
  refine entry_at hfr (hl.of_keeps fun b o hb hnf => ⟨o, (other b (notT b o hb hnf)).trans hb, rfl⟩) hf ((other e (Ne.symm hTe)).trans he)
    (fun b o hbo => (other b fun q => by rw [q, hnT] at hbo; cases hbo).trans (hkb b o hbo)) hen hd (Array.getElem?_eq_some_iff.mp h1).1
    fun h' x1 x2 => h h' x1 fun b o hb hnf => x2 b o ((other b (notT b o hb hnf)).trans hb) hnf
theorem flight_off (x : Fl base l e cls od fl s.heap)
    (h : ∀ h', Fl base l e cls od .none h' → s.heap.UpToSlots h' → Q () { s with heap := h' }) : wpAny M A (setFlight (.ref e) none) Q E s := by
  obtain ⟨hkb, hen, hl, oe, vs, T, oT, ts, he, hcd, hd, h1, hnT, hTe, hT, hdT, h3⟩ := x
  have hsz3 : 3 < ts.size := (Array.getElem?_eq_some_iff.mp h3).1
  have other : ∀ b, b ≠ T → (s.heap.update T (Obj.mapFields (·.setIfInBounds 3 ((none : Option Addr).elim Value.none fun f => rawInt f)))).get? b = s.heap.get? b :=
    fun b hb => Heap.get?_update_other _ _ (Ne.symm hb)
  have notT : ∀ b o, s.heap.get? b = some o → (∀ vs, o.data ≠ .fields vs) → b ≠ T := fun b o hb hnf q => by
    rw [q, hT] at hb; injection hb with hb; subst hb; exact hnf ts hdT
  unfold setFlight
  refine wpAny_bind (wpAny_field he hd h1 ?_)
  rw [if_pos (show (Value.ref T != Value.none) = true from by simp)]
  refine wpAny_setField hT hdT hsz3 (h _ ⟨fun b o hbo => (other b fun q => by rw [q, hnT] at hbo; cases hbo).trans (hkb b o hbo), hen,
    hl.of_keeps fun b o hb hnf => ⟨o, (other b (notT b o hb hnf)).trans hb, rfl⟩, ?_⟩ fun b o hb hnf => ⟨o.slots, (other b (notT b o hb hnf)).trans hb⟩)
  exact ⟨oe, vs, T, _, _, (other e (Ne.symm hTe)).trans he, hcd, hd, h1, hnT, hTe, Heap.get?_update_self _ hT (Obj.isFreed_of_fields (Obj.data_mapFields hdT _)), Obj.data_mapFields hdT _, by simp [hsz3]⟩
theorem Fl.tail (x : Fl base (env :: outer) e cls od fl s.heap) : Fl base outer e cls od fl s.heap :=
  let ⟨k1, k2, ⟨_, _, k3⟩, k4⟩ := x
  ⟨k1, k2, k3, k4⟩
theorem leave_first {oe : Obj} {vs : Array Value} (hfr : A.frames = some (env :: outer)) (hl : s.heap.FunFrames base (env :: outer)) (hf : env.frame = some L)
    (he : s.heap.get? e = some oe) (hkb : base.StaysIn s.heap) (hen : base.get? e = none) (hd : oe.data = .fields vs) (h1 : vs[1]? = some .none)
    (h : ∀ h', Fl base outer e oe.cls oe.dict .none h' → s.heap.UpToSlots h' → Q () { s with heap := h' }) : wpAny M A (leaving env (.ref e)) Q E s := by
  unfold leaving
  refine wpAny_bind (note_first hfr hl hf he hkb hen hd h1 fun h₁ x₁ u₁ => ?_)
  refine flight_off (s := { s with heap := h₁ }) x₁ fun h₂ x₂ u₂ => h h₂ (Fl.tail (s := { s with heap := h₂ }) x₂) (u₁.trans u₂)
theorem leave_on (hfr : A.frames = some (env :: outer)) (hf : env.frame = some L) (x : Fl base (env :: outer) e cls od .none s.heap)
    (h : ∀ h', Fl base outer e cls od .none h' → s.heap.UpToSlots h' → Q () { s with heap := h' }) : wpAny M A (leaving env (.ref e)) Q E s := by
  unfold leaving
  refine wpAny_bind (note_on hfr hf x fun h₁ x₁ u₁ => ?_)
  refine flight_off (s := { s with heap := h₁ }) x₁ fun h₂ x₂ u₂ => h h₂ (Fl.tail (s := { s with heap := h₂ }) x₂) (u₁.trans u₂)
end
end RX
set_option maxHeartbeats 4000000
namespace RX
open PySem PySem.Spec PyProof.Rows L2
def CXe (P : Program) (w : World) : CXT := fun outer H s E ev s' =>
  ∃ e cls od H' B, ev = .ref e ∧ s'.os = s.os ∧ AllBare s'.gens ∧ Un (frs outer) [] H H' s.heap s'.heap ∧ HOk P w H' s'.heap ∧ Fl B outer e cls od .none s'.heap ∧
    (∀ b o, s.heap.get? b = some o → b ∉ frs outer → ∃ o', B.get? b = some o') ∧ (∀ b u, H' b = some u → ∃ o, B.get? b = some o) ∧ E cls od H'
theorem same_of_stays {B h : Heap} {b : Addr} {o o' : Obj} (k : B.StaysIn h) (e : B.get? b = some o') (q : h.get? b = some o) : B.get? b = some o := by
  have := k b o' e
  rw [q] at this; cases this; exact e
theorem hok_stays {P : Program} {w : World} {H : Hp} {B h h' : Heap} (x : HOk P w H h) (k : ∀ b u, H b = some u → ∃ o, B.get? b = some o) (s1 : B.StaysIn h) (s2 : B.StaysIn h') : HOk P w H h' := fun a u e => by
  refine (x a u e).stay (fun b v hb q => ?_) (fun _ q => q) fun _ _ q => q
  have go : ∀ z, H b = some z → h'.get? b = some v := fun z r => by
    obtain ⟨o, ho⟩ := k b z r
    exact s2 b v (same_of_stays s1 ho q)
  rcases hb with rfl | hb
  · exact go u e
  · exact go _ hb
section
variable {X : Cx} {pins : List (Addr × Obj)} {σ : L2.St} {H : Hp} {s s' : Shared} {E E' : XK} {ev : Value} {M : Model} {EE : Value → Shared → Prop}
theorem mem_stack (hst : X.stack = X.env :: X.outer) (hf : X.env.frame = some X.env.locals) {b : Addr} (h : b ∈ frs X.stack) : b = X.env.locals ∨ b ∈ frs X.outer := by
  rw [hst] at h
  unfold frs at h
  rw [List.filterMap_cons, hf] at h
  exact List.mem_cons.mp h
theorem mem_stack_of (hst : X.stack = X.env :: X.outer) {b : Addr} (h : b ∈ frs X.outer) : b ∈ frs X.stack := by
  rw [hst]
  unfold frs at h ⊢
  rw [List.filterMap_cons]
  split
  · exact h
  · exact List.mem_cons_of_mem _ h
theorem pass_on (hst : X.stack = X.env :: X.outer) (hf : X.env.frame = some X.env.locals) (hex : X.ex = []) (I : Inv X pins σ H s) (x : CXe X.prog X.w X.stack H s E ev s')
    (hE : ∀ c d H', E c d H' → E' c d H') : wpAny M X.A (leaving X.env ev) (fun _ s'' => CXe X.prog X.w X.outer X.H₀ X.s₀ E' ev s'') EE s' := by
  obtain ⟨e, cls, od, H', B, rfl, os, bare, un, hok, fl, k1, k2, q⟩ := x
  have noA : ∀ b : Addr, b ∉ X.ex := fun b z => by rw [hex] at z; cases z
  have fl' : Fl B (X.env :: X.outer) e cls od .none s'.heap := by rw [← hst]; exact fl
  refine leave_on (by rw [← hst]; exact I.ok.frames) hf fl' fun h' f u => ⟨e, cls, od, H', B, rfl, os.trans I.os, bare, ?_, hok_stays hok k2 fl.stays f.stays, f, ?_, k2, hE _ _ _ q⟩
  · have nL : ∀ b o, X.s₀.heap.get? b = some o → b ≠ X.env.locals := fun b o e => Nat.ne_of_lt (Nat.lt_of_lt_of_le (Heap.lt_size e) I.ok.above)
    have out : ∀ b o, X.s₀.heap.get? b = some o → b ∉ frs X.outer → b ∉ frs X.stack := fun b o e n z => (mem_stack hst hf z).elim (nL b o e) n
    have slot : ∀ b o, X.s₀.heap.get? b = some o → X.H₀ b = none → b ∈ frs X.outer → ∃ sl, h'.get? b = some { o with slots := sl } := fun b o e n hb => by
      obtain ⟨sl, e1⟩ := I.base.slot b o e n hb (noA b)
      obtain ⟨sl2, e2⟩ := un.slot b _ e1 (I.base.free b o e n (noA b)) (mem_stack_of hst hb) (by simp)
      obtain ⟨_, o3, ho3, hnf⟩ := fl.frames.mem (mem_stack_of hst hb)
      rw [e2] at ho3; cases ho3
      obtain ⟨sl3, e3⟩ := u b _ e2 hnf
      exact ⟨sl3, e3⟩
    have keep : ∀ b o, X.s₀.heap.get? b = some o → X.H₀ b = none → b ∉ frs X.outer → h'.get? b = some o := fun b o e n hb => by
      have e1 := I.base.keep b o e n hb (noA b)
      have e2 := un.keep b o e1 (I.base.free b o e n (noA b)) (out b o e hb) (by simp)
      obtain ⟨o', h3⟩ := k1 b o e1 (out b o e hb)
      exact f.stays b o (same_of_stays fl.stays h3 e2)
    refine ⟨fun b o e n hb _ => keep b o e n hb, fun b o e n hb _ => slot b o e n hb, fun b o e n _ => ?_, fun b o e _ => ?_, fun b xs e => un.tups b xs (I.base.tups b xs e), fun b o xs e => un.frzs b o xs (I.base.frzs b o xs e), fun b ps e => ?_⟩
    · obtain ⟨o', e1⟩ := I.base.there b o e (noA b)
      exact un.free b o' e1 (I.base.free b o e n (noA b)) (by simp)
    · by_cases hb : b ∈ frs X.outer
      · obtain ⟨sl, z⟩ := slot b o e (I.ok.frf b hb) hb
        exact ⟨_, z⟩
      · obtain ⟨o', e1⟩ := I.base.there b o e (noA b)
        obtain ⟨o2, h2⟩ := k1 b o' e1 (out b o e hb)
        exact ⟨o2, f.stays b o2 h2⟩
    · obtain ⟨m1, e1⟩ := I.base.tbls b ps e
      obtain ⟨m2, e2⟩ := un.tbls b _ e1
      exact ⟨m1 ++ m2, by rw [e2, Array.append_assoc]⟩
  · intro b o e hb
    obtain ⟨o', e1⟩ := I.base.there b o e (noA b)
    exact k1 b o' e1 fun z => (mem_stack hst hf z).elim (Nat.ne_of_lt (Nat.lt_of_lt_of_le (Heap.lt_size e) I.ok.above)) hb
end
theorem passX {P : Program} {w : World} {K : PySem.W.Frag} {mg : Str → Option Value} {base : Heap} {N : List Str} {qual : Str} {scope : Scope} {f : Addr} {cd : Value} {A : Around} {outer : List Env} {s : Shared} {H : Hp} {E E' : XK}
    (hE : ∀ c d H', E' c d H' → E c d H') : Passes (CXe P w) (cxOf (CXe P w) P w K mg base N qual scope f cd A outer s H E) E' :=
  fun _ _ _ _ _ _ I x => pass_on (X := cxOf (CXe P w) P w K mg base N qual scope f cd A outer s H E) rfl rfl rfl I x hE
end RX
set_option maxHeartbeats 4000000
set_option maxRecDepth 100000
namespace RX
open PySem PySem.Spec PyProof.Rows L2 PySem.W
open Builtin Builtin.ObjectAttr
abbrev veMro : List Value := [.type "ValueError", .type "Exception", .type "BaseException", .type "object"]
def strKey (e : DictEntry) : Bool := match e.key with | .str _ _ => true | _ => false
def xcIn (K : Frag) (C D : Addr) : Bool := match K.lookup C, K.lookup D with
  | some ⟨c, _, .cls cd, sl⟩, some ⟨_, _, .cls dd, _⟩ => c == .type "type" && cd.mro == .ref C :: .ref D :: veMro && !cd.hasDel && cd.hasDict && sl.toList.length == 6 && (sl.toList[4]?).join == some (.builtin "ValueError.__new__") &&
      (match K.lookup dd.ns with | some ⟨_, _, .dict es _, _⟩ => es.toList.all strKey && (nsFind es "__init__").isNone | _ => false)
  | _, _ => false
theorem strKeys_of {es : Array DictEntry} (h : es.toList.all strKey = true) : StrKeys es := by
  intro e he
  have q : strKey e = true := List.all_eq_true.mp h e (by simpa using he)
  unfold strKey at q
  split at q
  · rename_i n t hk; exact ⟨n, t, hk⟩
  · cases q
def ClsAt (h : Heap) (C D : Addr) : Prop := OwnTail h veMro (.ref D :: veMro) ∧ ∃ nm q N bs sn sub ab col dd k0 k1 k2 k3 k5, h.get? C = some (excClassObj nm q C N bs (.ref D :: veMro) true sn sub ab col dd k0 k1 k2 k3 k5 "ValueError.__new__")
theorem clsAt_of {K : Frag} {h : Heap} {C D : Addr} (X : K.In h) (e : xcIn K C D = true) : ClsAt h C D := by
  unfold xcIn at e
  split at e
  · rename_i c dd cd sl c2 d2 dd2 sl2 hC hD
    simp only [Bool.and_eq_true, Bool.not_eq_true', beq_iff_eq] at e
    obtain ⟨⟨⟨⟨⟨⟨e1, e2⟩, e3⟩, e4⟩, e5⟩, e6⟩, e7⟩ := e
    split at e7
    · rename_i c3 d3 es n3 sl3 hN
      rw [Bool.and_eq_true] at e7
      refine ⟨.own (X _ _ hD) ⟨_, es, n3, X _ _ hN, rfl, strKeys_of e7.1, fun _ => rfl⟩ (by simpa using e7.2) .base, ?_⟩
      obtain ⟨nm, bs, mro, ns, qn, hd, sn, sub, ab, col, hdel⟩ := cd
      dsimp only at e2 e3 e4
      subst e1 e2 e3 e4
      obtain ⟨l⟩ := sl
      match l, e5, e6 with
      | [k0, k1, k2, k3, k4, k5], _, e6 =>
        have e6' : k4 = some (.builtin "ValueError.__new__") := by simpa using e6
        subst e6'
        exact ⟨_, _, _, _, _, _, _, _, _, _, _, _, _, _, X _ _ hC⟩
    · cases e7
  · cases e
theorem ClsAt.keeps {h h' : Heap} {C D : Addr} (x : ClsAt h C D) (k : ∀ b o, h.get? b = some o → h'.get? b = some o) : ClsAt h' C D := by
  obtain ⟨T, nm, q, N, bs, sn, sub, ab, col, dd, k0, k1, k2, k3, k5, hC⟩ := x
  exact ⟨T.keeps k, _, _, _, _, _, _, _, _, _, _, _, _, _, _, k _ _ hC⟩
section
variable {prog : Program} {w : World} {A : Around} {E : Value → Shared → Prop} {h : Heap} {g : Array GenState} {d : Drawn} {t : Nat} {os : OsState} {C D : Addr}
abbrev rawArgs (rest : List Value) : Obj := { cls := .type "tuple", data := .seq rest.toArray }
abbrev rawF (t : Addr) : Array Value := #[.ref t, .none, .none, .none, .bool false, .none]
abbrev rawX (C t : Addr) : Obj := { cls := .ref C, data := .fields (rawF t) }
theorem type_call_init {rest : List Value} {fI : Addr} {Q : Fin → Shared → Prop} (hc : ClsAt h C D) (hi : Looks (model prog w) h (typeLookup (.ref C) "__init__") (some (.ref fI)))
    (hb : ∀ self, Looks (model prog w) h (bindSpecial (.ref fI) self) (.ref fI, [self]))
    (hq : wpAny (model prog w) A (call (.ref fI) (.ref (h.objs.size + 1) :: rest)) (fun r s' => r = .none ∧ Q (.done (.ret (.ref (h.objs.size + 1)))) s') E
      ⟨(h.push (rawArgs rest)).push (rawX C h.objs.size), g, d, t, os⟩) (hrest : rest.length ≤ sizeLine) :
    wpAny (model prog w) A (Builtin.«type.__call__» ⟨.ref C :: rest, []⟩) Q E ⟨h, g, d, t, os⟩ := by
  obtain ⟨T, nm, q, N, bs, sn, sub, ab, col, dd, k0, k1, k2, k3, k5, hC⟩ := hc
  have F := PySem.F.excBase_ValueError
  repeat (first | with_reducible refine wpAny_loadPart_at hC ?_ | with_reducible refine wpAny_madeBy_exc hC ?_ | wp_step)
  refine codeAny_call_builtin_code (Code.quiet_builtin _ F.quiet) (wpAny_check_new_subT F T hC ?_)
  refine codeAny_exc_new_subT F T hC ?_ hrest
  show wpAny _ _ _ _ _ _
  have k : ∀ b o, h.get? b = some o → ((h.push (rawArgs rest)).push (rawX C h.objs.size)).get? b = some o := fun b o e => Heap.get?_push_of_some _ (Heap.get?_push_of_some _ e)
  have hC₁ := Heap.get?_push_of_some { cls := .ref C, data := .fields #[.ref h.objs.size, .none, .none, .none, .bool false, .none] } (Heap.get?_push_of_some { cls := .type "tuple", data := .seq rest.toArray } hC)
  have hget : ((h.push { cls := .type "tuple", data := .seq rest.toArray }).push { cls := .ref C, data := .fields #[.ref h.objs.size, .none, .none, .none, .bool false, .none] }).get? (h.objs.size + 1) = some
      { cls := .ref C, data := .fields #[.ref h.objs.size, .none, .none, .none, .bool false, .none] } := by heap_get
  have hcC : (Value.ref C :: Value.ref D :: veMro).contains (.ref C) = true := by simp
  have hi₁ := hi.keeps k
  have hb₁ := (hb (.ref (h.objs.size + 1))).keeps k
  unfold isInstance
  repeat (first | with_reducible refine wpAny_loadPart_at hget ?_ | (with_reducible refine wpAny_isSubtype_exc hC₁ ?_; rw [hcC]) | wp_step)
  show wpAny _ _ (typeLookup (.ref C) _) _ _ _
  refine hi₁.here (s := ⟨(h.push (rawArgs rest)).push (rawX C h.objs.size), g, d, t, os⟩) ?_
  refine wpAny_holding (wpAny_bind (hb₁.here (s := ⟨(h.push (rawArgs rest)).push (rawX C h.objs.size), g, d, t, os⟩) ?_))
  refine wpAny_bind (wpAny_mono hq (fun r s' hr => ?_) fun _ _ x => x)
  obtain ⟨rfl, hQ⟩ := hr
  wp_walk
  exact hQ
theorem call_exc_init {rest : List Value} {fI : Addr} {Q : Value → Shared → Prop} (hc : ClsAt h C D) (hi : Looks (model prog w) h (typeLookup (.ref C) "__init__") (some (.ref fI)))
    (hb : ∀ self, Looks (model prog w) h (bindSpecial (.ref fI) self) (.ref fI, [self]))
    (hq : wpAny (model prog w) (A.under (.builtin "type.__call__" ⟨.ref C :: rest, []⟩)) (call (.ref fI) (.ref (h.objs.size + 1) :: rest)) (fun r s' => r = .none ∧ Q (.ref (h.objs.size + 1)) s') E
      ⟨(h.push (rawArgs rest)).push (rawX C h.objs.size), g, d, t, os⟩) (hrest : rest.length ≤ sizeLine) :
    wpAny (model prog w) A (call (.ref C) rest) Q E ⟨h, g, d, t, os⟩ := by
  obtain ⟨T, nm, q, N, bs, sn, sub, ab, col, dd, k0, k1, k2, k3, k5, hC⟩ := id hc
  have f1 := tc_lookup
  have f2 := tc_bind (.ref C)
  have hT : (⟨h, g, d, t, os⟩ : Shared).TypeIs (.ref C) "type" := ⟨_, hC, rfl⟩
  refine wpAny_call (codeAny_of_tree ?_)
  show wpAny _ _ (callAny (.ref C) _) _ _ _
  repeat (any_goals (first | assumption | with_reducible refine wpAny_loadPart_at hC ?_ | wp_step))
  refine ⟨rfl, ?_⟩
  refine codeAny_call_builtin_at (Code.quiet_builtin _ (by decide +kernel)) entry_typeCall (wpAny_check_type_call_sub hC (type_call_init hc hi hb ?_ hrest))
  exact hq
theorem call_exc_plain {rest : List Value} {Q : Value → Shared → Prop} (hc : ClsAt h C D) (hN : ∃ mN, (∀ nm q N bs sn sub ab col dd k0 k1 k2 k3 k5, h.get? C = some (excClassObj nm q C N bs (.ref D :: veMro) true sn sub ab col dd k0 k1 k2 k3 k5 "ValueError.__new__") → h.Ns N mN) ∧ mN "__init__" = none)
    (hq : ∀ h' e, Heap.MadeExcOf h h' e (.ref C) rest → Q (.ref e) ⟨h', g, d, t, os⟩) (hrest : rest.length ≤ sizeLine) : wpAny (model prog w) A (call (.ref C) rest) Q E ⟨h, g, d, t, os⟩ := by
  obtain ⟨T, nm, q, N, bs, sn, sub, ab, col, dd, k0, k1, k2, k3, k5, hC⟩ := hc
  obtain ⟨mN, hn, hni⟩ := hN
  exact wpAny_call_exc_subT PySem.F.excBase_ValueError T hC (hn _ _ _ _ _ _ _ _ _ _ _ _ _ _ hC) hni hq hrest
end
section
variable {prog : Program} {w : World} {A : Around} {E : Value → Shared → Prop} {K : Frag} {C D x : Addr} {s : Shared}
theorem store_x {vs : Array Value} {name : Str} {v : Value} {Q : Unit → Shared → Prop} (X : K.In s.heap) (hc : xcIn K C D = true) (hs : findIn K (.ref C) "__setattr__" = some (some (.builtin "object.__setattr__"))) (ha : findIn K (.ref C) name = some none)
    (hx : s.heap.get? x = some ⟨.ref C, none, .fields vs, #[]⟩)
    (hq : ∀ h' tk, h'.get? x = some ⟨.ref C, some s.heap.objs.size, .fields vs, #[]⟩ → h'.Ns1 s.heap.objs.size (fun y => if y = name then some v else none) → (∀ b o, b ≠ x → s.heap.get? b = some o → h'.get? b = some o) → Q () { s with heap := h', toks := tk }) :
    wpAny (model prog w) A (setAttr (.ref x) name v) Q E s := by
  have SF := PySem.F.store_ValueError
  have I : InstAt s.heap x ⟨.ref C, none, .fields vs, #[]⟩ C none := ⟨hx, rfl, rfl, trivial⟩
  refine set_plain X I hs ?_
  obtain ⟨T, nm, q, N, bs, sn, sub, ab, col, dd, k0, k1, k2, k3, k5, hC⟩ := clsAt_of X hc
  obtain ⟨h, g, d, t, os⟩ := s
  have hm : Looks (model prog w) h (mroOf (.ref C)) (.ref C :: .ref D :: veMro) := ((Looks.ld (part := none) hC).andThen .now).andThen .now
  have sub' : Looks (model prog w) h (isInstance (.ref x) (.type "object")) true := I.type.andThen (by
    unfold isSubtype
    exact hm.andThen .now)
  refine codeAny_call_builtin SF.slot.plain SF.entry (@check_slot (model prog w) _ _ ⟨h, g, d, t + 1, os⟩ "object.__setattr__" "object" "__setattr__" (.ref x) [.str name t, v] [] _ SF.kind SF.split sub' (SF.args (.ref x) (.str name t) v) ?_)
  rw [osa_eq, refuse_eq]
  refine wpAny_bind (wpAny_bind (I.type.here (s := ⟨h, g, d, t + 1, os⟩) (wpAny_bind (hm.here (s := ⟨h, g, d, t + 1, os⟩) ?_))))
  rw [refuseLoop_ref, refuseLoop_ref, SF.passes]
  refine wpAny_pure (wpAny_bind (I.type.here (s := ⟨h, g, d, t + 1, os⟩) (wpAny_bind ((looks_findIn X ha).here (s := ⟨h, g, d, t + 1, os⟩) (wpAny_bind (wpAny_pure ?_))))))
  have hx₁ : (h.push { cls := .type "dict", data := .dict #[] }).get? x = some ⟨.ref C, none, .fields vs, #[]⟩ := Heap.get?_push_of_some _ hx
  have hxs : x ≠ h.objs.size := Nat.ne_of_lt (Heap.lt_size hx)
  refine wpAny_bind (wpAny_pure (wpAny_bind (wpAny_bind (wpAny_loadPart hx ?_))))
  refine wpAny_bind (wpAny_bind (wpAny_load hC (wpAny_pure ?_)))
  refine wpAny_bind (wpAny_alloc' ?_)
  refine wpAny_bind (wpAny_update' hx₁ ?_)
  refine wpAny_pure ?_
  have hgd : ((h.push { cls := .type "dict", data := .dict #[] }).update x fun o => { cls := o.cls, dict := some h.objs.size, data := o.data, slots := o.slots }).get? h.objs.size
      = some { cls := .type "dict", data := .dict #[] } :=
    (Heap.get?_update_ne _ _ _ _ hxs.symm).trans (Heap.get?_push_at rfl rfl)
  have hnd : ((h.push { cls := .type "dict", data := .dict #[] }).update x fun o => { cls := o.cls, dict := some h.objs.size, data := o.data, slots := o.slots }).Ns h.objs.size (fun _ => none) :=
    ⟨_, #[], _, hgd, rfl, fun e he => absurd he (by simp), fun _ => rfl⟩
  show wpAny _ _ (storeInDict h.objs.size (.str name t) name v) _ _ _
  unfold storeInDict newKeyGuard
  refine wpAny_bind (wpAny_pure (wpAny_bind (wpAny_nsSet1 (Heap.Ns1.of_empty hnd) fun h' hn' hs => ?_)))
  obtain ⟨oD, esD, epD, hoD, hdD, hcD⟩ := hn'.count (PySem.Within.cons name v PySem.Within.nil)
  refine wpAny_bind (wpAny_lookBehind hoD (by rw [hdD]; exact pastItsLine_dict (Nat.le_trans hcD (by rw [List.length_cons, List.length_nil, sizeLine_eq]; omega))) ?_)
  refine wpAny_pure (hq h' _ ?_ hn' fun b o hb e => ?_)
  · exact (hs.2 x hxs).trans (Heap.get?_update_self _ hx₁ rfl)
  · exact (hs.2 b (Nat.ne_of_lt (Heap.lt_size e))).trans ((Heap.get?_update_ne _ _ _ _ hb).trans (Heap.get?_push_of_some _ e))
end
end RX
set_option maxHeartbeats 4000000
set_option maxRecDepth 100000
namespace RX
open PySem PySem.Spec PyProof.Rows L2 PySem.W
def XV (C : Addr) (od : Option Addr) (fv : Array Value) (e : Addr) : HO := .ext fun h => h.get? e = some ⟨.ref C, od, .fields fv, #[]⟩
theorem XV.ok {P : Program} {w : World} {H : Hp} {h : Heap} {C e : Addr} {od : Option Addr} {fv : Array Value} (x : h.get? e = some ⟨.ref C, od, .fields fv, #[]⟩) : ObjOk P w H h e (XV C od fv e) :=
  ⟨x, ⟨_, x⟩, fun _ _ p k => k _ p⟩
theorem XV.get {P : Program} {w : World} {H : Hp} {h : Heap} {C e : Addr} {od : Option Addr} {fv : Array Value} (x : HOk P w H h) (q : H e = some (XV C od fv e)) : h.get? e = some ⟨.ref C, od, .fields fv, #[]⟩ := (x e _ q).1
structure XCl (K : Frag) (C D : Addr) : Prop where
  cls : xcIn K C D = true
  sa : findIn K (.ref C) "__setattr__" = some (some (.builtin "object.__setattr__"))
  kp : keepIn K (.ref C) = true
def sFldX (K : Frag) (ta tv : TE) (f : Str) : TS := fun D σ H => tv σ H fun y H1 => ta σ H1 fun x H2 => ∃ e C Dd fv, x = .ref e ∧ H2 e = some (XV C none fv e) ∧ XCl K C Dd ∧ findIn K (.ref C) f = some none ∧
  ∀ dx, H2 dx = none → dx ≠ e → D.nx σ (upd (upd H2 dx (.xd [(f, y)])) e (XV C (some dx) fv e))
section
variable {X : Cx} {o value : Expr} {f : Str} {pos pos' : Pos} {ta tv : TE}
theorem ps_fldX (ha : PE X o ta) (hv : PE X value tv) (hs : swapsWith value (some (.Attribute o f pos')) pos.line X.env = pure false) : PS X (.Assign [.Attribute o f pos'] value pos) (sFldX X.K ta tv f) := by
  intro pins s σ H D I h
  refine plainObj_wpAny_Assign_Attribute (thn (hv pins s σ H _ I h) fun u s1 ⟨y, H1, I1, ry, q⟩ => thn (ha pins s1 σ H1 _ I1 q) fun ov s2 ⟨x, H2, I2, rx, e, C, Dd, fv, ex, ea, c, n, q2⟩ => ?_) hs
  subst ex
  obtain rfl : ov = Value.ref e := rx
  have hx := XV.get I2.hok ea
  have hn : H2 s2.heap.objs.size = none := I2.hok.fresh (Nat.le_refl _)
  have hne : s2.heap.objs.size ≠ e := Nat.ne_of_gt (Heap.lt_size hx)
  refine store_x I2.kIn c.cls c.sa n hx fun h' tk g1 g2 g3 => ?_
  have ne1 : ∀ b v, H2 b = some v → (∀ φ, v ≠ .ext φ) → b ≠ e := fun b v r nv z => by rw [z, ea] at r; exact nv _ (Option.some.inj r).symm
  have ne2 : ∀ b v, H2 b = some v → b ≠ s2.heap.objs.size := fun b v r z => by rw [z, hn] at r; cases r
  have ne3 : ∀ b, H2 b = none → b ≠ e := fun b r z => by rw [z, ea] at r; cases r
  have at3 : ∀ b, b ≠ e → b ≠ s2.heap.objs.size → upd (upd H2 s2.heap.objs.size (.xd [(f, y)])) e (XV C (some s2.heap.objs.size) fv e) b = H2 b := fun b h1 h2 => by rw [upd_ne h1, upd_ne h2]
  refine ⟨σ, _, I2.un (H' := upd (upd H2 s2.heap.objs.size (.xd [(f, y)])) e (XV C (some s2.heap.objs.size) fv e)) (h' := h') (t' := tk) ⟨?_, ?_, ?_, ?_, ?_, ?_, ?_⟩ fun b v r => ?_, q2 _ hn hne⟩
  · exact fun b ob r n _ _ => g3 b ob (ne3 b n) r
  · exact fun b ob r n _ _ => ⟨ob.slots, g3 b ob (ne3 b n) r⟩
  · exact fun b ob r n _ => by rw [at3 b (ne3 b n) (Nat.ne_of_lt (Heap.lt_size r))]; exact n
  · intro b ob r _
    by_cases z : b = e
    · subst z; exact ⟨_, g1⟩
    · exact ⟨_, g3 b ob z r⟩
  · exact fun b xs r => by rw [at3 b (ne1 b _ r fun _ => by simp) (ne2 b _ r)]; exact r
  · exact fun b ob xs r => by rw [at3 b (ne1 b _ r fun _ => by simp) (ne2 b _ r)]; exact r
  · exact fun b ps r => ⟨#[], by rw [at3 b (ne1 b _ r fun _ => by simp) (ne2 b _ r), r]; simp⟩
  · by_cases z : b = e
    · subst z; rw [upd_same] at r; cases r; exact XV.ok g1
    · by_cases z2 : b = s2.heap.objs.size
      · subst z2
        rw [upd_ne z, upd_same] at r; cases r
        refine ⟨_, g2, fun g => ?_⟩
        by_cases w : g = f
        · subst w
          rw [if_pos rfl, List.lookup_cons_self]; exact ry
        · rw [if_neg w, show List.lookup g [(f, y)] = none from by unfold List.lookup; rw [beq_eq_false_iff_ne.mpr w]; rfl]; trivial
      · rw [at3 b z z2] at r
        refine (I2.hok b v r).stay (fun c ob hc q => g3 c ob ?_ q) (fun c q => ?_) fun c xs q => ?_
        · rcases hc with rfl | hc
          · exact z
          · exact ne1 c _ hc fun _ => by simp
        · rw [at3 c (ne1 c _ q fun _ => by simp) (ne2 c _ q)]; exact q
        · rw [at3 c (ne1 c _ q fun _ => by simp) (ne2 c _ q)]; exact q
end
section
variable {M : Model} {A : Around} {E : Value → Shared → Prop} {s : Shared} {env : Env} {C D : Addr} {Q : Flow → Shared → Prop}
theorem raise_made {x : Sem Value} (hh : A.handled = none)
    (h : wpAny M A x (fun v s₁ => ∃ e t od, v = .ref e ∧ ClsAt s₁.heap C D ∧ s₁.heap.get? e = some { cls := .ref C, dict := od, data := .fields #[.ref t, .none, .none, .none, .bool false, .none] } ∧ E (.ref e) s₁) E s) : wpAny M A (raiseStmt env (some x) none) Q E s := by
  have hcB : (Value.ref C :: Value.ref D :: veMro).contains (.type "BaseException") = true := by
    rw [List.contains_cons, List.contains_cons]
    exact Bool.or_eq_true_iff.mpr (.inr (Bool.or_eq_true_iff.mpr (.inr (by decide))))
  unfold raiseStmt
  refine wpAny_bind (wpAny_mono h (fun v s₁ h₁ => ?_) fun _ _ x => x)
  obtain ⟨e, t, od, rfl, ⟨T, nm, q, N, bs, sn, sub, ab, col, dd, k0, k1, k2, k3, k5, hC⟩, he, hE⟩ := h₁
  obtain ⟨hp, g, d, tk, os⟩ := s₁
  repeat (first | with_reducible refine wpAny_loadPart_at he ?_ | with_reducible refine wpAny_loadPart_at hC ?_ | (with_reducible refine wpAny_isSubtype_exc hC ?_; rw [hcB]) | wp_step)
  exact wpAny_raiseNew_none hh hE
theorem exec_raise {prog : Program} {w : World} {ex : Expr} {pos : Pos} (hh : A.handled = none)
    (h : wpAny (model prog w) A (eval ex env) (fun v s₁ => ∃ e t od, v = .ref e ∧ ClsAt s₁.heap C D ∧ s₁.heap.get? e = some { cls := .ref C, dict := od, data := .fields #[.ref t, .none, .none, .none, .bool false, .none] } ∧ E (.ref e) s₁) E s) :
    wpAny (model prog w) A (exec (.Raise (some ex) none pos) env) Q E s := by
  rw [arm_exec_Raise]
  first
    | exact wpAny_bind (wpAny_standAt (raise_made (C := C) (D := D) hh (wpAny_bind (wpAny_mono h (fun v s₃ h₃ => wpAny_bind (wpAny_standAt (wpAny_pure h₃))) fun _ _ x => x))))
    | (simp only [evalOpt, Option.map]; exact wpAny_bind (wpAny_standAt (raise_made (C := C) (D := D) hh (wpAny_bind (wpAny_mono h (fun v s₃ h₃ => wpAny_bind (wpAny_standAt (wpAny_pure h₃))) fun _ _ x => x)))))
end
end RX
set_option maxHeartbeats 4000000
set_option maxRecDepth 100000
namespace RX
open PySem PySem.Spec PyProof.Rows L2 PySem.W
theorem objAt {P : Program} {w : World} {H : Hp} {h : Heap} {a : Addr} {o : HO} (x : ObjOk P w H h a o) : ∃ u, h.get? a = some u := by
  cases o with
  | lst xs => obtain ⟨_, _, _, _, e⟩ := x; exact ⟨_, e⟩
  | tup xs => obtain ⟨_, _, _, o, e, _⟩ := x; exact ⟨_, e⟩
  | dK kvs => obtain ⟨_, _, _, _, o, _, _, e, _⟩ := x; exact ⟨_, e⟩
  | dT kvs => obtain ⟨_, _, _, _, o, _, _, e, _⟩ := x; exact ⟨_, e⟩
  | set S n => obtain ⟨o, _, _, _, e, _⟩ := x; exact ⟨_, e⟩
  | ins C dx fs => obtain ⟨_, _, _, e, _⟩ := x; exact ⟨_, e⟩
  | own y => exact x
  | xd fs => obtain ⟨_, ⟨_, _, _, e, _⟩, _⟩ := x; exact ⟨_, e⟩
  | rng lo hi => obtain ⟨_, _, _, e⟩ := x; exact ⟨_, e⟩
  | frz ob u => obtain ⟨e, _⟩ := x; exact ⟨_, e⟩
  | tbl ps => exact ⟨_, (show h.get? a = some _ from x)⟩
  | met f y => exact ⟨_, (show h.get? a = some _ from x)⟩
  | ext φ => obtain ⟨_, e, _⟩ := x; exact e
def untr (H : Hp) (e : Addr) : Hp := fun b => if b = e then none else H b
theorem untr_ne {H : Hp} {e b : Addr} (h : b ≠ e) : untr H e b = H b := by unfold untr; rw [if_neg h]
theorem untr_same {H : Hp} {e : Addr} : untr H e e = none := by unfold untr; rw [if_pos rfl]
section
variable {X : Cx} {pins : List (Addr × Obj)} {σ : L2.St} {H : Hp} {s : Shared}
theorem inv_untr {e : Addr} (I : L2.Inv X pins σ H s) {φ : Heap → Prop} (he : H e = some (.ext φ)) : L2.Inv X pins σ (untr H e) s := by
  have free : ∀ b, H b = none → untr H e b = none := fun b q => by unfold untr; split <;> first | rfl | exact q
  have ne : ∀ b v, H b = some v → (∀ φ, v ≠ .ext φ) → b ≠ e := fun b v r nv z => by rw [z, he] at r; exact nv _ (Option.some.inj r).symm
  refine ⟨I.ok, I.os, I.bare, ⟨I.base.keep, I.base.slot, fun b o q n hx => free b (I.base.free b o q n hx), I.base.there, fun b xs q => ?_, fun b o xs q => ?_, fun b ps q => ?_⟩, I.loc, I.cell, free _ I.free, fun x c q => free _ (I.freeC x c q), fun p hp => ?_, fun b u q => ?_, I.len⟩
  · have r := I.base.tups b xs q
    rw [untr_ne (ne b _ r fun _ => by simp)]; exact r
  · have r := I.base.frzs b o xs q
    rw [untr_ne (ne b _ r fun _ => by simp)]; exact r
  · obtain ⟨m, r⟩ := I.base.tbls b ps q
    exact ⟨m, by rw [untr_ne (ne b _ r fun _ => by simp)]; exact r⟩
  · obtain ⟨e1, n, r⟩ := I.pin p hp
    exact ⟨e1, free _ n, r⟩
  · have hb : b ≠ e := fun z => by rw [z, untr_same] at q; cases q
    rw [untr_ne hb] at q
    refine (I.hok b u q).stay (fun _ _ _ z => z) (fun c z => ?_) fun c xs z => ?_
    · rw [untr_ne (ne c _ z fun _ => by simp)]; exact z
    · rw [untr_ne (ne c _ z fun _ => by simp)]; exact z
theorem un_leave {outer : List Env} {H₀ H' : Hp} {h₀ h h' B : Heap} (un : Un (frs outer) [] H₀ H' h₀ h) (s1 : B.StaysIn h) (s2 : B.StaysIn h') (k1 : ∀ b o, h₀.get? b = some o → b ∉ frs outer → ∃ o', B.get? b = some o')
    (frf : ∀ b ∈ frs outer, H₀ b = none) (nf : ∀ b ∈ frs outer, ∀ o, h.get? b = some o → ∀ vs, o.data ≠ .fields vs) (u : h.UpToSlots h') : Un (frs outer) [] H₀ H' h₀ h' := by
  have slot : ∀ b o, h₀.get? b = some o → H₀ b = none → b ∈ frs outer → ∃ sl, h'.get? b = some { o with slots := sl } := fun b o e n hb => by
    obtain ⟨sl, e1⟩ := un.slot b o e n hb (by simp)
    obtain ⟨sl2, e2⟩ := u b _ e1 (nf b hb _ e1)
    exact ⟨sl2, e2⟩
  refine ⟨fun b o e n hb _ => ?_, fun b o e n hb _ => slot b o e n hb, un.free, fun b o e _ => ?_, un.tups, un.frzs, un.tbls⟩
  · obtain ⟨o', h3⟩ := k1 b o e hb
    exact s2 b o (same_of_stays s1 h3 (un.keep b o e n hb (by simp)))
  · by_cases hb : b ∈ frs outer
    · obtain ⟨sl, z⟩ := slot b o e (frf b hb) hb
      exact ⟨_, z⟩
    · obtain ⟨o', h3⟩ := k1 b o e hb
      exact ⟨o', s2 b o' h3⟩
theorem raise_leaves {M : Model} {EE : Value → Shared → Prop} {E : XK} {e C t : Addr} {od : Option Addr} (hst : X.stack = X.env :: X.outer) (hf : X.env.frame = some X.env.locals) (hex : X.ex = []) (I : L2.Inv X pins σ H s)
    (hn : X.s₀.heap.get? e = none) (he : s.heap.get? e = some { cls := .ref C, dict := od, data := .fields #[.ref t, .none, .none, .none, .bool false, .none] }) (hu : H e = none) (q : E (.ref C) od H) :
    wpAny M X.A (leaving X.env (.ref e)) (fun _ s'' => CXe X.prog X.w X.outer X.H₀ X.s₀ E (.ref e) s'') EE s := by
  have noA : ∀ b : Addr, b ∉ X.ex := fun b z => by rw [hex] at z; cases z
  have st : (hideAll s.heap (e :: frs X.stack)).StaysIn s.heap := fun b o q => of_hideAll _ q
  have fr : s.heap.FunFrames (hideAll s.heap (e :: frs X.stack)) (X.env :: X.outer) := by
    have := I.stack
    rw [hst] at this
    exact funFrames_hide this fun env he a ha => List.mem_cons_of_mem _ (by rw [hst]; exact List.mem_filterMap.mpr ⟨env, he, ha⟩)
  have un0 : Un (frs X.outer) [] X.H₀ H X.s₀.heap s.heap := I.base.mono (fun _ z => z) fun b z => absurd z (noA b)
  have k1 : ∀ b o, X.s₀.heap.get? b = some o → b ∉ frs X.outer → ∃ o', (hideAll s.heap (e :: frs X.stack)).get? b = some o' := fun b o q hb => by
    obtain ⟨o', q'⟩ := I.base.there b o q (noA b)
    refine ⟨o', hideAll_get _ q' fun hm => ?_⟩
    rcases List.mem_cons.mp hm with z | z
    · rw [z, hn] at q; cases q
    · exact (mem_stack hst hf z).elim (Nat.ne_of_lt (Nat.lt_of_lt_of_le (Heap.lt_size q) I.ok.above)) hb
  have k2 : ∀ b u, H b = some u → ∃ o, (hideAll s.heap (e :: frs X.stack)).get? b = some o := fun b u q => by
    obtain ⟨o, ho⟩ := objAt (I.hok b u q)
    refine ⟨o, hideAll_get _ ho fun hm => ?_⟩
    rcases List.mem_cons.mp hm with z | z
    · rw [z, hu] at q; cases q
    · rw [I.stkFree b z] at q; cases q
  refine leave_first (base := hideAll s.heap (e :: frs X.stack)) (by rw [← hst]; exact I.ok.frames) fr hf he st (hideAll_none _ (List.mem_cons_self)) rfl rfl fun h' fl u => ?_
  refine ⟨e, .ref C, od, H, _, rfl, I.os, I.bare, un_leave un0 st fl.stays k1 I.ok.frf (fun b hb o ho => ?_) u, hok_stays I.hok k2 st fl.stays, fl, k1, k2, q⟩
  obtain ⟨_, o', ho', hnf⟩ := fr.mem (by have := mem_stack_of hst hb; rw [hst] at this; exact this)
  rw [ho] at ho'; cases ho'; exact hnf
end
def spInit (C : Addr) (f : Str) : Sp := fun vs H Q _ => ∃ e fv y, vs = [.ref e, y] ∧ H e = some (XV C none fv e) ∧ ∀ dx, H dx = none → dx ≠ e → Q .non (upd (upd H dx (.xd [(f, y)])) e (XV C (some dx) fv e))
def sRaiseF (C : Addr) (f : Str) (E : XK) (t : TA) : TS := fun _ σ H => t σ H fun vs H1 => ∃ y, vs = [y] ∧ ∀ dx, H1 dx = none → E (.ref C) (some dx) (upd H1 dx (.xd [(f, y)]))
section
variable {X : Cx} {k : Nat} {C D fI : Addr} {fd : FuncData} {ps : List Str} {E : XK} {x f : Str} {np pos cpos : Pos} {arg : Expr} {t : TA}
theorem ps_raiseF (c : XCl X.K C D) (hi : findIn X.K (.ref C) "__init__" = some (some (.ref fI))) (hfn : isFn X.K (.ref fI) = true)
    (F : FnOk X.prog X.w X.K X.mg X.base CX0 k fI fd ps (spInit C f)) (hr : Room (k + 1) X.A) (hb : L2.Binds X.K fd ps []) (hg : Gl X x) (hm : X.mg x = some (.ref C)) (ha : PA X [arg] t)
    (hst : X.stack = X.env :: X.outer) (hf : X.env.frame = some X.env.locals) (hex : X.ex = [])
    (hxe : ∀ e s', wpAny (model X.prog X.w) X.A (leaving X.env e) (fun _ s'' => CXe X.prog X.w X.outer X.H₀ X.s₀ E e s'') (fun e' s'' => CXe X.prog X.w X.outer X.H₀ X.s₀ E e' s'') s' → X.xe e s')
    (hdb : (x == ("__debug__" : Str)) = false := by decide) (he : starEach [arg] X.env = (false, eval arg X.env) :: starEach [] X.env := by rfl) :
    PS X (.Raise (some (.Call (.Name x np) [arg] [] cpos)) none pos) (sRaiseF C f E t) := by
  intro pins s σ H Dn I h
  refine exec_raise (C := C) (D := D) hr.hd (wpAny_Call_Name_kw (ld_glob I hg hm ?_ hdb))
  refine PySem.W.callWith_K (h₀ := X.base) I.ok.mod.kin c.kp (thn (ha cpos pins s σ H _ I h) fun us s1 ⟨vs, H1, I1, r, y, ev, q⟩ => ⟨I1.kIn, ?_⟩) he rfl
  subst ev
  have hus : us.length = 1 := r.length.symm
  have kin := I1.kIn
  have hn : X.s₀.heap.get? (s1.heap.objs.size + 1) = none := Heap.get?_none_of_le (Nat.le_succ_of_le I1.sz)
  have hfree : H1 (s1.heap.objs.size + 1) = none := I1.hok.fresh (Nat.le_succ _)
  have e1 : ((s1.heap.push (rawArgs us)).push (rawX C s1.heap.objs.size)).get? (s1.heap.objs.size + 1) = some (rawX C s1.heap.objs.size) := by
    have := Heap.get?_push_size (s1.heap.push (rawArgs us)) (o := rawX C s1.heap.objs.size) rfl
    rwa [Heap.size_push] at this
  have I0 := I1.kept (h' := s1.heap.push (rawArgs us)) (t' := s1.toks) fun b u q => Heap.get?_push_of_some _ q
  have I2 := I0.laid (a := s1.heap.objs.size + 1) (o := XV C none (rawF s1.heap.objs.size) (s1.heap.objs.size + 1)) (h' := (s1.heap.push (rawArgs us)).push (rawX C s1.heap.objs.size)) (t' := s1.toks)
    (fun b u q => Heap.get?_push_of_some _ q) (Nat.le_of_eq (Heap.size_push _ _)) (XV.ok e1)
  have r2 : Vals [V.ref (s1.heap.objs.size + 1), y] (Value.ref (s1.heap.objs.size + 1) :: us) := .cons rfl r
  have hsp : spInit C f [V.ref (s1.heap.objs.size + 1), y] (upd H1 (s1.heap.objs.size + 1) (XV C none (rawF s1.heap.objs.size) (s1.heap.objs.size + 1))) (fun v H' => v = .non ∧ ∃ dx, H1 dx = none ∧ dx ≠ s1.heap.objs.size + 1 ∧
      H' = upd (upd (upd H1 (s1.heap.objs.size + 1) (XV C none (rawF s1.heap.objs.size) (s1.heap.objs.size + 1))) dx (.xd [(f, y)])) (s1.heap.objs.size + 1) (XV C (some dx) (rawF s1.heap.objs.size) (s1.heap.objs.size + 1))) E0 :=
    ⟨_, _, y, rfl, upd_same, fun dx h1 h2 => ⟨rfl, dx, by rwa [upd_ne h2] at h1, h2, rfl⟩⟩
  have hl : ((Value.ref (s1.heap.objs.size + 1) :: us) ++ []).length = ps.length := by
    rw [List.append_nil, ← r2.length]; exact F.len _ _ _ _ hsp
  have bd := hb { s1 with heap := (s1.heap.push (rawArgs us)).push (rawX C s1.heap.objs.size) } (Value.ref (s1.heap.objs.size + 1) :: us) I2.kIn hl
  rw [List.append_nil] at bd
  refine call_exc_init (D := D) (clsAt_of kin c.cls) (looks_findIn kin hi) (fun self => bind_fn kin self (beq_iff_eq.mp hfn)) (wpAny_call (codeAny_mono (F.run _ X.stack _ _ ⟨Value.ref (s1.heap.objs.size + 1) :: us, []⟩ _ _ _ E0 (hr.make C us [])
    (I2.env0.make C us []) bd r2 hsp) fun rr s' hq => ?_)) (by rw [List.nil_append, hus, sizeLine_eq]; omega)
  cases rr with
  | error e => exact False.elim hq
  | ok fl =>
    cases fl with
    | ret u =>
      obtain ⟨v, H', I3, rv, ev, dx, g1, g2, g3⟩ := I2.after hq
      subst ev g3
      obtain rfl : u = Value.none := rv
      have he := XV.get (e := s1.heap.objs.size + 1) I3.hok upd_same
      have I4 := inv_untr (e := s1.heap.objs.size + 1) I3 upd_same
      refine ⟨rfl, s1.heap.objs.size + 1, s1.heap.objs.size, some dx, rfl, clsAt_of I3.kIn c.cls, he, hxe _ _ (raise_leaves hst hf hex I4 hn he untr_same ?_)⟩
      have e4 : untr (upd (upd (upd H1 (s1.heap.objs.size + 1) (XV C none (rawF s1.heap.objs.size) (s1.heap.objs.size + 1))) dx (.xd [(f, y)])) (s1.heap.objs.size + 1) (XV C (some dx) (rawF s1.heap.objs.size) (s1.heap.objs.size + 1))) (s1.heap.objs.size + 1)
          = upd H1 dx (.xd [(f, y)]) := by
        funext b
        by_cases z : b = s1.heap.objs.size + 1
        · rw [z, untr_same, upd_ne (Ne.symm g2), hfree]
        · rw [untr_ne z, upd_ne z]
          by_cases z2 : b = dx
          · rw [z2, upd_same, upd_same]
          · rw [upd_ne z2, upd_ne z2, upd_ne z]
      rw [e4]
      exact q dx g1
    | next => exact False.elim hq
    | brk => exact False.elim hq
    | cont => exact False.elim hq
end
end RX
set_option maxHeartbeats 4000000
set_option maxRecDepth 100000
namespace RX
open PySem PySem.Spec PyProof.Rows L2 PySem.W
open Builtin Builtin.ObjectAttr
structure XGet (K : Frag) (C : Addr) : Prop where
  ga : findIn K (.ref C) "__getattribute__" = some (some (.builtin "BaseException.__getattribute__"))
  gh : findIn K (.ref C) "__getattr__" = some none
  hd : hasDictIn K C = true
  be : mroIn K C (.type "BaseException") = some true
  ob : mroIn K C (.type "object") = some true
  cl : findIn K (.ref C) "__class__" = some (some (.builtin "object.__class__"))
  cg : specialIn K (.builtin "object.__class__") "__get__" = some (some (.builtin "getset_descriptor.__get__"))
  ct : takesIn K (.builtin "object.__class__") = some true
theorem bga_kind : builtinKind "BaseException.__getattribute__" = some .slot := by decide +kernel
theorem bga_split : splitId "BaseException.__getattribute__" = some ("BaseException", "__getattribute__") := by decide +kernel
section
variable {prog : Program} {w : World} {A : Around} {E : Value → Shared → Prop} {s : Shared} {K : Frag} {x C : Addr} {ox : Obj} {od : Option Obj} {name : Str} {tk : Tok} {fill expr : Bool} {Q : Value → Shared → Prop}
theorem getBy_x (X : K.In s.heap) (I : InstAt s.heap x ox C od) (g : XGet K C)
    (h : wpAny (model prog w) A.in1 (Builtin.«object.__getattribute__» ⟨[.ref x, .str name tk], []⟩) (fun fin s' => match fin with | .done (.ret v) => wpAny (model prog w) A (handedOut v) Q E s' | _ => False)
      (fun _ _ => False) s) : wpAny (model prog w) A (getAttrBy (.ref x) (.str name tk) fill expr) Q E s := by
  obtain ⟨hh, gg, d, t, os⟩ := s
  have L0 := I.type (M := model prog w)
  have L1 := looks_findIn (M := model prog w) X g.ga
  have L2 := looks_findIn (M := model prog w) X g.gh
  have L3 : Looks (model prog w) hh (isInstance (.ref x) (.type "BaseException")) true := L0.andThen (looks_mroIn X g.be)
  have f3 := PySem.F.excAttr_ValueError.ga.bind (.ref x)
  have hx0 : (expr && onTheHeap (Value.builtin "BaseException.__getattribute__")) = false := by cases expr <;> rfl
  have hx2 : (Value.builtin "BaseException.__getattribute__" == Value.builtin "object.__getattribute__") = false := by decide +kernel
  have hx1 : (onTheHeap (Value.ref C) && Value.builtin "BaseException.__getattribute__" == Value.builtin "object.__getattribute__") = false := by rw [hx2]; rfl
  unfold getAttrBy
  refine wpAny_holding (wpAny_bind (L0.here (s := ⟨hh, gg, d, t, os⟩) (wpAny_bind (L1.here (s := ⟨hh, gg, d, t, os⟩) ?_))))
  dsimp only
  rw [hx1]
  simp only [Bool.false_eq_true, if_false]
  unfold getAttrByItsOwn hookBefore
  rw [if_pos (show onTheHeap (Value.ref C) = true from rfl)]
  refine wpAny_bind (L2.here (s := ⟨hh, gg, d, t, os⟩) (wpAny_bind (wpAny_attempt (wpAny_holding ?_))))
  unfold callGetattribute
  rw [hx0]
  simp only [Bool.false_eq_true, if_false]
  unfold boundAndCalled
  rw [f3]
  refine wpAny_bind (wpAny_pure (wpAny_call ?_))
  refine codeAny_call_builtin PySem.F.excAttr_ValueError.ga.plain PySem.F.entry_bexc_ga ?_
  refine @check_slot (model prog w) _ _ ⟨hh, gg, d, t, os⟩ "BaseException.__getattribute__" "BaseException" "__getattribute__" (.ref x) [.str name tk] [] _ bga_kind bga_split L3 (PySem.F.args_bexc_ga _ _) ?_
  refine wpAny_mono h (fun fin s' z => ?_) fun _ _ z => False.elim z
  cases fin with
  | again c => exact z.elim
  | done f =>
    cases f with
    | ret v => exact z
    | next => exact z.elim
    | brk => exact z.elim
    | cont => exact z.elim
theorem get_x {o : Obj} {v : Value} (X : K.In s.heap) (I : InstAt s.heap x ox C (some o)) (g : XGet K C) (ha : findIn K (.ref C) name = some none) (hl : lookIn name o = some (some v)) (hh : handedIn v = true) (h : Q v { s with toks := s.toks + 1 }) :
    wpAny (model prog w) A (getAttr (.ref x) name expr) Q E s := by
  have hf : findObj K C (some o) name = some (.value v) := findObj_own g.hd ha rfl hl
  unfold getAttr
  refine wpAny_bind (wpAny_mkText ?_)
  obtain ⟨hp, gg, d, t, os⟩ := s
  have L0 := I.type (M := model prog w)
  have L1 := looks_find (M := model prog w) X I hf
  refine getBy_x (s := ⟨hp, gg, d, t + 1, os⟩) X I g ?_
  refine wpAny_bind (wpAny_pure (wpAny_bind (wpAny_pure (wpAny_bind (L0.here (s := ⟨hp, gg, d, t + 1, os⟩) (wpAny_bind (L1.here (s := ⟨hp, gg, d, t + 1, os⟩) ?_)))))))
  refine wpAny_pure ?_
  exact handed_on hh h
theorem findObj_dataX {od : Option Obj} {a g : Value} (hc : (clsIn K C).isSome = true) (ha : findIn K (.ref C) name = some (some a)) (hg : specialIn K a "__get__" = some (some g)) (ht : takesIn K a = some true) : findObj K C od name = some (.bind g a) := by
  obtain ⟨cd, hcd⟩ := Option.isSome_iff_exists.mp hc
  unfold findObj
  rw [hcd, Option.bind_some, ha, Option.bind_some]
  dsimp only
  rw [hg, Option.bind_some]
  dsimp only
  rw [ht, Option.bind_some]
theorem class_x {Q : Option Value → Shared → Prop} (X : K.In s.heap) (I : InstAt s.heap x ox C od) (g : XGet K C) (h : Q (some (.ref C)) { s with toks := s.toks + 1 }) : wpAny (model prog w) A (getAttr? (.ref x) "__class__") Q E s := by
  have hf : findObj K C od "__class__" = some (.bind (.builtin "getset_descriptor.__get__") (.builtin "object.__class__")) :=
    findObj_dataX (by obtain ⟨cd, hc, _⟩ := any_some g.hd; rw [hc]; rfl) g.cl g.cg g.ct
  unfold getAttr? getAttrBy?
  refine wpAny_bind (wpAny_mkText (wpAny_bind (wpAny_attempt ?_)))
  obtain ⟨hp, gg, d, t, os⟩ := s
  have L0 := I.type (M := model prog w)
  have L1 := looks_find (M := model prog w) X I hf
  refine getBy_x (s := ⟨hp, gg, d, t + 1, os⟩) X I g ?_
  refine wpAny_bind (wpAny_pure (wpAny_bind (wpAny_pure (wpAny_bind (L0.here (s := ⟨hp, gg, d, t + 1, os⟩) (wpAny_bind (L1.here (s := ⟨hp, gg, d, t + 1, os⟩) ?_)))))))
  show wpAny _ _ (bindTo (.builtin "getset_descriptor.__get__") (.builtin "object.__class__") (.ref x) (.ref C)) _ _ _
  unfold bindTo
  dsimp only
  refine wpAny_bind (wpAny_holding (wpAny_call (class_get (s := ⟨hp, gg, d, t + 1, os⟩) X I g.ob ?_)))
  refine wpAny_pure ?_
  exact handed_on rfl (wpAny_pure h)
theorem kitx_x (g : XGet K C) : KitX K (.ref x) (.ref C) (fun h => ∃ ox od, InstAt h x ox C od) where
  ty := fun _ _ _ ⟨_, _, I⟩ => I.type
  it := fun _ _ X _ => by
    obtain ⟨cdD, hcD, _⟩ := any_some g.hd
    unfold clsIn at hcD
    split at hcD
    · rename_i c' d' cd' sl' ho
      intro A' Q' E' s' k q
      unfold isType loadHead
      exact wpAny_bind (wpAny_loadPart (k _ _ (X _ _ ho)) (wpAny_pure q))
    · cases hcD
  ne := fun h tp dd its n sl X htp => by
    obtain ⟨cdD, hcD, _⟩ := any_some g.hd
    refine Bool.eq_false_iff.mpr fun q => ?_
    have e : C = tp := Value.ref.inj (beq_iff_eq.mp q)
    subst e
    unfold clsIn at hcD
    split at hcD
    · rename_i c' d' cd' sl' ho
      have z := (X _ _ ho).symm.trans htp
      cases z
    · cases hcD
  ca := fun X ⟨_, _, I⟩ k => class_x X I g k
end
def XO (C : Addr) (od : Option Addr) (e : Addr) : HO := .ext fun h => ∃ o fv, h.get? e = some o ∧ o.cls = .ref C ∧ o.dict = od ∧ o.data = .fields fv
theorem XO.ok {P : Program} {w : World} {H : Hp} {h : Heap} {C e : Addr} {od : Option Addr} {o : Obj} {fv : Array Value} (e1 : h.get? e = some o) (e2 : o.cls = .ref C) (e3 : o.dict = od) (e4 : o.data = .fields fv) : ObjOk P w H h e (XO C od e) :=
  ⟨⟨o, fv, e1, e2, e3, e4⟩, ⟨_, e1⟩, fun _ _ ⟨o, fv, p, r⟩ k => ⟨o, fv, k _ p, r⟩⟩
section
variable {P : Program} {w : World} {H : Hp} {h : Heap} {C e : Addr} {od : Option Addr}
theorem XO.get (x : HOk P w H h) (q : H e = some (XO C od e)) : ∃ o fv, h.get? e = some o ∧ o.cls = .ref C ∧ o.dict = od ∧ o.data = .fields fv := (x e _ q).1
theorem notCls_fields {o : Obj} {fv : Array Value} (h : o.data = .fields fv) : notCls o = true := by unfold notCls; rw [h]
theorem XO.inst (x : HOk P w H h) (q : H e = some (XO C od e)) (hd : ∀ dx, od = some dx → ∃ u, H dx = some u) : ∃ ox oo, InstAt h e ox C oo := by
  obtain ⟨o, fv, e1, e2, e3, e4⟩ := XO.get x q
  cases od with
  | none => exact ⟨o, none, e1, e2, notCls_fields e4, by rw [e3]; trivial⟩
  | some dx =>
    obtain ⟨u, hu⟩ := hd dx rfl
    obtain ⟨o', ho'⟩ := objAt (x dx u hu)
    exact ⟨o, some o', e1, e2, notCls_fields e4, by rw [e3]; exact ho'⟩
end
section
variable {X : Cx} {f : Str} {e : Expr} {ta : TE} {pos : Pos}
def tFldX (K : Frag) (ta : TE) (f : Str) : TE := fun σ H Q => ta σ H fun x H1 => ∃ a C dx fs v, x = .ref a ∧ H1 a = some (XO C (some dx) a) ∧ H1 dx = some (.xd fs) ∧ XGet K C ∧ findIn K (.ref C) f = some none ∧ fs.lookup f = some v ∧ (∀ n, v ≠ .ty n) ∧ Q v H1
theorem pe_fldX (he : PE X e ta) (hb : attributeBase e f X.env (eval e X.env) = eval e X.env) : PE X (.Attribute e f pos) (tFldX X.K ta f) := by
  intro pins s σ H Q I h
  refine attr_of hb (thn (he pins s σ H _ I h) fun u s1 ⟨x, H1, I1, rx, a, C, dx, fs, v, ex, ea, ed, g, n, l, nt, q⟩ => ?_)
  subst ex
  obtain rfl : u = Value.ref a := rx
  obtain ⟨o, fv, e1, e2, e3, e4⟩ := XO.get I1.hok ea
  obtain ⟨mA, hns, r⟩ := (show ObjOk X.prog X.w H1 s1.heap dx (.xd fs) from I1.hok dx _ ed)
  obtain ⟨u', hu, ru⟩ := RelO.some_of (v := v) (o := mA f) (by rw [← l]; exact r f)
  obtain ⟨od, ho, hl⟩ := lookIn_ns hns
  exact get_x I1.kIn ⟨e1, e2, notCls_fields e4, by rw [e3]; exact ho⟩ g n (by rw [hl, hu]) (handed_of ru) ⟨v, H1, I1.tok _, ru, q⟩
def clV : V → Option Value
  | .ref a => some (.ref a)
  | .ty n => some (.type n)
  | _ => none
theorem clV_rel {y : V} {c u : Value} (e : clV y = some c) (r : L2.RelV y u) : u = c := by
  cases y <;> cases e <;> exact r
def rIsX (K : Frag) : List V → Hp → VK → Prop := fun xs H Q => ∃ a C od y c b, xs = [.ref a, y] ∧ H a = some (XO C od a) ∧ (∀ dx, od = some dx → ∃ u, H dx = some u) ∧ XGet K C ∧ clV y = some c ∧ kitOne K (.ref C) c = some b ∧ Q (.bl b) H
theorem call_isinstX : CallR X (.builtin "isinstance") (rIsX X.K) := by
  intro pins s σ H xs us Q I r h
  obtain ⟨a, C, od, y, c, b, rfl, ea, hd, g, ec, e, q⟩ := h
  obtain ⟨u, w', rfl, rx, ry⟩ := vals2 r
  cases (show u = Value.ref a from rx)
  cases clV_rel ec ry
  exact kia_one (kitx_x g) I.kIn (XO.inst I.hok ea hd) e (fun z => nomatch z) fun tk => ⟨.bl b, H, I.tok tk, rfl, q⟩
def rIsXT (K : Frag) : List V → Hp → VK → Prop := fun xs H Q => ∃ a C od tp, ∃ (cs : List Addr) (b : Bool), xs = [.ref a, .ref tp] ∧ H a = some (XO C od a) ∧ (∀ dx, od = some dx → ∃ u, H dx = some u) ∧ XGet K C ∧ H tp = some (.tup (cs.map V.ref)) ∧
  kitAny K (.ref C) (cs.map Value.ref) = some b ∧ Q (.bl b) H
theorem call_isinstXT : CallR X (.builtin "isinstance") (rIsXT X.K) := by
  intro pins s σ H xs us Q I r h
  obtain ⟨a, C, od, tp, cs, b, rfl, ea, hd, g, et, e, q⟩ := h
  obtain ⟨u, w', rfl, rx, ry⟩ := vals2 r
  cases (show u = Value.ref a from rx)
  cases (show w' = Value.ref tp from ry)
  obtain ⟨_, its, rv, o, h1, h2, n, h3⟩ := (show ObjOk X.prog X.w H s.heap tp (.tup (cs.map V.ref)) from I.hok tp _ et)
  obtain ⟨oc, od', odt, osl⟩ := o
  dsimp only at h2 h3
  subst h2 h3
  rw [refs_of rv] at h1
  exact kia_tup (kitx_x g) I.kIn (XO.inst I.hok ea hd) h1 e (fun z => nomatch z) fun tk => ⟨.bl b, H, I.tok tk, rfl, q⟩
end
end RX
set_option maxHeartbeats 4000000
set_option maxRecDepth 100000
namespace RX
open PySem PySem.Spec PyProof.Rows L2 PySem.W
section
variable {X : Cx} {pins : List (Addr × Obj)} {σ : L2.St} {H0 H' : Hp} {s0 s' : Shared} {e C : Addr} {cls fl fl' : Value} {od : Option Addr} {B h' : Heap}
structure Ly (X : Cx) (H0 : Hp) (s0 : Shared) (e : Addr) (cls : Value) (od : Option Addr) (H' : Hp) (B : Heap) (fl : Value) (s' : Shared) : Prop where
  os : s'.os = s0.os
  bare : AllBare s'.gens
  un : Un (frs X.stack) [] H0 H' s0.heap s'.heap
  hok : HOk X.prog X.w H' s'.heap
  fly : Fl B X.stack e cls od fl s'.heap
  k1 : ∀ b o, s0.heap.get? b = some o → b ∉ frs X.stack → ∃ o', B.get? b = some o'
  k2 : ∀ b u, H' b = some u → ∃ o, B.get? b = some o
theorem Ly.to (x : Ly X H0 s0 e cls od H' B fl s') (I : L2.Inv X pins σ H0 s0) (f : Fl B X.stack e cls od fl' h') (u : s'.heap.UpToSlots h') : Ly X H0 s0 e cls od H' B fl' { s' with heap := h' } := by
  refine ⟨x.os, x.bare, un_leave x.un x.fly.stays f.stays x.k1 I.stkFree (fun b hb o ho => ?_) u, hok_stays x.hok x.k2 x.fly.stays f.stays, f, x.k1, x.k2⟩
  obtain ⟨_, o', ho', hnf⟩ := x.fly.frames.mem hb
  rw [ho] at ho'; cases ho'; exact hnf
theorem Ly.free (x : Ly X H0 s0 e cls od H' B fl s') : H' e = none := by
  cases q : H' e with
  | none => rfl
  | some u =>
    obtain ⟨o, ho⟩ := x.k2 e u q
    rw [x.fly.new] at ho; cases ho
theorem Ly.fresh (x : Ly X H0 s0 e cls od H' B fl s') : s0.heap.get? e = none := by
  cases q : s0.heap.get? e with
  | none => rfl
  | some o =>
    by_cases hb : e ∈ frs X.stack
    · obtain ⟨_, o', ho', hnf⟩ := x.fly.frames.mem hb
      obtain ⟨oe, vs, _, _, _, he, _, hd, _⟩ := x.fly.trace
      rw [he] at ho'; cases ho'
      exact absurd hd (hnf vs)
    · obtain ⟨o', h⟩ := x.k1 e o q hb
      rw [x.fly.new] at h; cases h
theorem Ly.inv (x : Ly X H0 s0 e cls od H' B fl s') (I : L2.Inv X pins σ H0 s0) : L2.Inv X pins σ H' s' :=
  I.call' (ch := []) x.os x.un x.hok x.bare fun b z => absurd z (by simp)
theorem Ly.track (x : Ly X H0 s0 e (.ref C) od H' B fl s') (I : L2.Inv X pins σ H0 s0) : L2.Inv X pins σ (upd H' e (XO C od e)) s' := by
  have nf := x.free
  have ne : ∀ b v, H' b = some v → b ≠ e := fun b v q z => by rw [z, nf] at q; cases q
  refine I.call' (ch := []) x.os ⟨x.un.keep, x.un.slot, fun b o q n hx => ?_, x.un.there, fun b xs q => ?_, fun b o xs q => ?_, fun b ps q => ?_⟩ (fun b u q => ?_) x.bare fun b z => absurd z (by simp)
  · rw [upd_ne (fun z => by rw [z, x.fresh] at q; cases q)]
    exact x.un.free b o q n hx
  · have r := x.un.tups b xs q
    rw [upd_ne (ne b _ r)]; exact r
  · have r := x.un.frzs b o xs q
    rw [upd_ne (ne b _ r)]; exact r
  · obtain ⟨m, r⟩ := x.un.tbls b ps q
    exact ⟨m, by rw [upd_ne (ne b _ r)]; exact r⟩
  · by_cases z : b = e
    · subst z
      rw [upd_same] at q; cases q
      obtain ⟨oe, vs, _, _, _, he, ⟨hc, hd⟩, hf, _⟩ := x.fly.trace
      exact XO.ok he hc hd hf
    · rw [upd_ne z] at q
      refine (x.hok b u q).stay (fun _ _ _ r => r) (fun c r => ?_) fun c xs r => ?_
      · rw [upd_ne (ne c _ r)]; exact r
      · rw [upd_ne (ne c _ r)]; exact r
end
abbrev mrk (X : Cx) (e : Addr) : Cx := { X with A := X.A.mark (some (.ref e)), calm := false, xe := fun _ _ => False }
section
variable {X : Cx} {pins : List (Addr × Obj)} {σ : L2.St} {H : Hp} {s : Shared} {e : Addr}
theorem inv_mrk (I : L2.Inv X pins σ H s) (e : Addr) : L2.Inv (mrk X e) pins σ H s :=
  have ok := I.ok
  ⟨⟨ok.mod, ok.kind, ok.glob, ok.blt, ok.above, ok.inj, ok.has, ok.cab, (fun z => Bool.noConfusion z), ok.frames, ok.stk, ok.exf, ok.bs, ok.bsz, ok.noex, ok.exfs, ok.funs, ok.frf⟩, I.os, I.bare, I.base, I.loc, I.cell, I.free, I.freeC, I.pin, I.hok, I.len⟩
theorem inv_unmrk (ok : X.Ok) (I : L2.Inv (mrk X e) pins σ H s) : L2.Inv X pins σ H s :=
  ⟨ok, I.os, I.bare, I.base, I.loc, I.cell, I.free, I.freeC, I.pin, I.hok, I.len⟩
theorem inv_pn {pn : List (Addr × Obj)} {E : Value → Shared → Prop} (I : L2.Inv X pins σ H s) (h : ∀ p ∈ pn, p ∈ X.pn ++ pins) : L2.Inv { X with pn := pn, xe := E } [] σ H s :=
  have ok := I.ok
  ⟨⟨ok.mod, ok.kind, ok.glob, ok.blt, ok.above, ok.inj, ok.has, ok.cab, ok.hd, ok.frames, ok.stk, ok.exf, ok.bs, ok.bsz, ok.noex, ok.exfs, ok.funs, ok.frf⟩, I.os, I.bare, I.base, I.loc, I.cell, I.free, I.freeC, fun p hp => I.pin p (h p (by simpa using hp)), I.hok, I.len⟩
theorem inv_unpn {pn pins' : List (Addr × Obj)} {E : Value → Shared → Prop} (ok : X.Ok) (I : L2.Inv { X with pn := pn, xe := E } pins' σ H s) (h : ∀ p ∈ X.pn ++ pins, p ∈ pn) : L2.Inv X pins σ H s :=
  ⟨ok, I.os, I.bare, I.base, I.loc, I.cell, I.free, I.freeC, fun p hp => I.pin p (List.mem_append_left _ (h p hp)), I.hok, I.len⟩
theorem goes_ok {M : Model} {A : Around} {E : Value → Shared → Prop} {i : Nat} {n : Str} {pos : Pos} {Q : Unit → Shared → Prop} (I : L2.Inv X pins σ H s) (hN : X.N.Nodup) (hi : X.N[i]? = some n) (hk : X.env.scope.names.lookup n = some .local)
    (h : ∀ s', L2.Inv X pins (σ.set i none) H s' → Q () s') : wpAny M A (do bindName X.env n .none; unbindBehindTheSuite X.env n pos) Q E s := by
  obtain ⟨m, hn, hl⟩ := id I.loc
  have hcls : (X.env.scope.kind == .class || (X.env.scope.kind == .module && X.env.locals != X.env.globals)) = false := by rw [I.ok.kind]; rfl
  have hiσ : i < σ.length := by rw [I.len]; exact (List.getElem?_eq_some_iff.mp hi).1
  obtain ⟨oL, _, _, hoL, _⟩ := id hn
  refine wpAny_nameGoes_keeps hk hn hcls fun h' v hn' hs => ?_
  have tracked : HOk X.prog X.w H h' := fun b ob e => by
    refine (I.hok b ob e).stay (fun c w' hc q => (hs.2 c ?_).trans q) (fun _ q => q) fun _ _ q => q
    rintro rfl
    rcases hc with hc | hc
    · rw [← hc, I.free] at e; cases e
    · rw [I.free] at hc; cases hc
  have low : ∀ b o, X.s₀.heap.get? b = some o → b ≠ X.env.locals := fun b o e => Nat.ne_of_lt (Nat.lt_of_lt_of_le (Heap.lt_size e) I.ok.above)
  refine h _ ⟨I.ok, I.os, I.bare, ⟨fun b o e n hb hx => ?_, fun b o e n hb hx => ?_, I.base.free, fun b o e hx => ?_, I.base.tups, I.base.frzs, I.base.tbls⟩, ⟨_, hn', fun j y v' e1 e2 e3 => ?_⟩, fun y c e => ?_, I.free, I.freeC, fun p hp => ?_, tracked, by simpa using I.len⟩
  · exact (hs.2 b (low b o e)).trans (I.base.keep b o e n hb hx)
  · obtain ⟨sl, e1⟩ := I.base.slot b o e n hb hx
    exact ⟨sl, (hs.2 b (low b o e)).trans e1⟩
  · obtain ⟨o', e1⟩ := I.base.there b o e hx
    exact ⟨o', (hs.2 b (low b o e)).trans e1⟩
  · by_cases hj : j = i
    · subst hj
      rw [List.getElem?_set_self hiσ] at e2
      cases e2
    · rw [List.getElem?_set_ne (Ne.symm hj)] at e2
      obtain ⟨u', r', q⟩ := hl j y v' e1 e2 e3
      refine ⟨u', r', ?_⟩
      rcases q with ⟨k, e⟩ | ⟨k, c, e, z⟩
      · refine .inl ⟨k, ?_⟩
        have : y ≠ n := fun e => hj (nodup_ix hN e1 (e ▸ hi))
        simp [this, e]
      · exact .inr ⟨k, c, e, z.sameBut hs (I.cne y c e)⟩
  · obtain ⟨w', z⟩ := I.cell y c e
    exact ⟨w', z.sameBut hs (I.cne y c e)⟩
  · obtain ⟨e, n, ne, nf, d⟩ := I.pin p hp
    exact ⟨(hs.2 p.1 ne).trans e, n, ne, nf, d⟩
end
theorem match_own {M : Model} {A : Around} {E : Value → Shared → Prop} {s : Shared} {K : Frag} {e C C' : Addr} {oe : Obj} {b : Bool} {Q : Bool → Shared → Prop} (X : K.In s.heap) (he : s.heap.get? e = some oe) (hc : oe.cls = .ref C)
    (k : kitCls K (.ref C) (.ref C') = some b) (hb : mroIn K C' (.type "BaseException") = some true) (q : Q b s) : wpAny M A (excMatches (.ref e) (.ref C')) Q E s := by
  obtain ⟨hty, his, hsub⟩ := kit_cls (M := M) X k
  obtain ⟨hh, g, d, t, os⟩ := s
  have L1 : Looks M hh (isInstance (.ref C') (.type "tuple")) false := hty.andThen (Looks.of_pure tc_notTuple)
  have L2 : Looks M hh (isExcClass (.ref C')) true := by
    unfold isExcClass
    refine his.andThen ?_
    rw [if_pos rfl]
    exact looks_mroIn X hb
  have L3 : Looks M hh (typeOf (.ref e)) (.ref C) := hc ▸ (Looks.ld he).andThen .now
  unfold excMatches
  refine wpAny_bind (L1.here (s := ⟨hh, g, d, t, os⟩) ?_)
  simp only [Bool.false_eq_true, if_false]
  refine wpAny_bind (wpAny_pure (wpAny_bind ?_))
  rw [List.forIn_cons]
  refine wpAny_bind (wpAny_bind (L2.here (s := ⟨hh, g, d, t, os⟩) ?_))
  simp only [Bool.not_true, Bool.false_eq_true, if_false]
  refine wpAny_pure ?_
  dsimp only
  rw [List.forIn_nil]
  refine wpAny_pure (wpAny_bind (L3.here (s := ⟨hh, g, d, t, os⟩) (wpAny_bind ?_)))
  rw [List.forIn_cons]
  refine wpAny_bind (wpAny_bind (hsub.here (s := ⟨hh, g, d, t, os⟩) ?_))
  cases b with
  | true => exact wpAny_pure (wpAny_pure (wpAny_pure q))
  | false =>
    simp only [Bool.false_eq_true, if_false]
    refine wpAny_pure ?_
    dsimp only
    rw [List.forIn_nil]
    exact wpAny_pure (wpAny_pure q)
end RX
set_option maxHeartbeats 4000000
set_option maxRecDepth 100000
namespace RX
open PySem PySem.Spec PyProof.Rows L2 PySem.W
abbrev TH := L2.St → Value → Option Addr → Hp → Ends → Prop
def PH (X : Cx) (hs : List ExceptHandler) (th : TH) : Prop := ∀ (pins : List (Addr × Obj)) (σ : L2.St) (H0 : Hp) (s0 : Shared) (e : Addr) (cls : Value) (od : Option Addr) (H' : Hp) (B : Heap) (s' : Shared) (D : Ends),
  L2.Inv X pins σ H0 s0 → Ly X H0 s0 e cls od H' B .none s' → th σ cls od H' D → wpAny (model X.prog X.w) X.A (handleBy (.ref e) X.env hs) (SP X pins D) X.xe s'
abbrev tryX (X : Cx) (pn : List (Addr × Obj)) (E : Value → Shared → Prop) : Cx := { X with pn := pn, xe := E }
def Takes (X : Cx) (Ex : L2.St → XK) : Prop := ∀ (pins : List (Addr × Obj)) (σ : L2.St) (H : Hp) (s : Shared) (e : Value) (s' : Shared), L2.Inv X pins σ H s → CXe X.prog X.w X.stack H s (Ex σ) e s' → X.xe e s'
def sTry (tb : (L2.St → XK) → TS) (th : TH) : TS := fun D σ H => tb (fun σ' cls od H' => th σ' cls od H' D) D σ H
section
variable {X : Cx} {body suite : List Stmt} {h₀ : ExceptHandler} {hs rest : List ExceptHandler} {tb : (L2.St → XK) → TS} {th : TH} {pos hpos cp : Pos}
theorem ps_try (hst : X.stack = X.env :: X.outer) (hf : X.env.frame = some X.env.locals) (hb : ∀ pn E Ex, Takes (tryX X pn E) Ex → PSs (tryX X pn E) body (tb Ex)) (hh : PH X (h₀ :: hs) th) : PS X (.Try body (h₀ :: hs) [] [] pos) (sTry tb th) := by
  intro pins s σ H D I h
  refine wpAny_Try_except ?_
  refine wpAny_mono (hb (X.pn ++ pins) (fun ev s₁ => wpAny (model X.prog X.w) X.A (noteFrame ev X.env) (fun _ s₂ => wpAny (model X.prog X.w) X.A (setFlight ev none) (fun _ s₃ => wpAny (model X.prog X.w) X.A (handleBy ev X.env (h₀ :: hs)) (SP X pins D) X.xe s₃) X.xe s₂) X.xe s₁)
    (fun σ' cls od H' => th σ' cls od H' D) (fun pins' σ' H1 s1 ev s' I1 x => ?_) [] s σ H D (inv_pn I fun p hp => hp) h) (fun f s1 q => ?_) fun _ _ q => q
  · have I2 : L2.Inv X pins σ' H1 s1 := inv_unpn I.ok I1 fun p hp => hp
    obtain ⟨e, cls, od, H', B, rfl, os, bare, un, hok, fl, k1, k2, q⟩ := x
    have y : Ly X H1 s1 e cls od H' B .none s' := ⟨os, bare, un, hok, fl, k1, k2⟩
    have fl' : Fl B (X.env :: X.outer) e cls od .none s'.heap := by rw [← hst]; exact fl
    show wpAny (model X.prog X.w) X.A (noteFrame (.ref e) X.env) _ _ s'
    refine note_on (by rw [← hst]; exact I.ok.frames) hf fl' fun h1 f1 u1 => ?_
    rw [← hst] at f1
    have y1 := y.to I2 f1 u1
    refine flight_off (s := { s' with heap := h1 }) f1 fun h2 f2 u2 => ?_
    exact hh pins σ' H1 s1 e cls od H' B _ D I2 (y1.to I2 f2 u2) q
  · have up : ∀ {σ' : L2.St} {H' : Hp} {EE : Value → Shared → Prop}, L2.Inv (tryX X (X.pn ++ pins) EE) [] σ' H' s1 → L2.Inv X pins σ' H' s1 := fun J => inv_unpn I.ok J fun p hp => hp
    cases f with
    | next => obtain ⟨σ', H', J, r⟩ := q; exact wpAny_pure ⟨σ', H', up J, r⟩
    | brk => obtain ⟨σ', H', J, r⟩ := q; exact ⟨σ', H', up J, r⟩
    | cont => obtain ⟨σ', H', J, r⟩ := q; exact ⟨σ', H', up J, r⟩
    | ret u => obtain ⟨v, σ', H', J, rv, r⟩ := q; exact ⟨v, σ', H', up J, rv, r⟩
theorem ph_nil : PH X [] (fun _ _ _ _ _ => False) := fun _ _ _ _ _ _ _ _ _ _ _ _ _ h => h.elim
def unE (i : Nat) (D : Ends) : Ends := { nx := fun σ H => D.nx (σ.set i none) H, rt := D.rt, bk := fun σ H => D.bk (σ.set i none) H, ct := fun σ H => D.ct (σ.set i none) H }
def thAs (K : Frag) (C' : Addr) (i : Nat) (ts : TS) (th : TH) : TH := fun σ cls od H D => ∃ C b, cls = .ref C ∧ kitCls K (.ref C) (.ref C') = some b ∧
  if b = true then ∀ e, H e = none → ts (unE i D) (σ.set i (some (.ref e))) (upd H e (XO C od e)) else th σ cls od H D
theorem ph_as {c n : Str} {C' : Addr} {i : Nat} {b₀ : Stmt} {ts : TS} (hg : Gl X c) (hm : X.mg c = some (.ref C')) (hbe : mroIn X.K C' (.type "BaseException") = some true) (hN : X.N.Nodup) (hi : X.N[i]? = some n)
    (hk : X.env.scope.names.lookup n = some .local) (hs : ∀ e, PSs (mrk X e) (b₀ :: suite) ts) (hr : PH X rest th) (hdb : (c == ("__debug__" : Str)) = false := by decide) :
    PH X (.ExceptHandler (some (.Name c cp)) (some n) (b₀ :: suite) hpos :: rest) (thAs X.K C' i ts th) := by
  intro pins σ H0 s0 e cls od H' B s' D I y h
  obtain ⟨C, b, rfl, hkit, h⟩ := h
  have J := y.inv I
  have Jm := inv_mrk J e
  obtain ⟨oe, vs, _, _, _, he, ⟨hc, _⟩, _⟩ := y.fly.trace
  refine wpAny_handleBy_cons (codeAny_handlers_test (ld_glob (X := mrk X e) Jm hg hm ?_ hdb)) (by intro q; cases q)
  refine match_own J.kIn he hc hkit hbe ?_
  cases b with
  | false =>
    rw [if_neg (by decide)] at h
    exact hr pins σ H0 s0 e _ od H' B s' D I y h
  | true =>
    rw [if_pos rfl] at h
    refine codeAny_handlers_suite_as ?_
    refine flight_off y.fly fun h2 f2 u2 => ?_
    have y2 := y.to I f2 u2
    have J2 := inv_mrk (y2.track I) e
    refine store_ok (X := mrk X e) J2 hN hi (.inl hk) (v := .ref e) rfl (fun s3 J3 => ?_) (.inr hk)
    refine wpAny_mono (hs e pins s3 _ _ (unE i D) J3 (h e y.free)) (fun f s4 q => ?_) fun _ _ z => False.elim z
    have ok := I.ok
    cases f with
    | next => obtain ⟨σ', H4, J4, r⟩ := q; exact goes_ok (inv_unmrk ok J4) hN hi hk fun s5 J5 => ⟨_, _, J5, r⟩
    | brk => obtain ⟨σ', H4, J4, r⟩ := q; exact goes_ok (inv_unmrk ok J4) hN hi hk fun s5 J5 => ⟨_, _, J5, r⟩
    | cont => obtain ⟨σ', H4, J4, r⟩ := q; exact goes_ok (inv_unmrk ok J4) hN hi hk fun s5 J5 => ⟨_, _, J5, r⟩
    | ret u => obtain ⟨v, σ', H4, J4, rv, r⟩ := q; exact goes_ok (inv_unmrk ok J4) hN hi hk fun s5 J5 => ⟨v, _, _, J5, rv, r⟩
end
def tCallX (sp : Sp) (dvs : List V) (Ex : L2.St → XK) (t : TA) : TE := fun σ H Q => t σ H fun vs H1 => sp (vs ++ dvs) H1 Q (Ex σ)
section
variable {X : Cx} {k : Nat} {f : Addr} {fd : FuncData} {ps : List Str} {sp : Sp} {dvs : List V} {ds : List Value} {Ex : L2.St → XK} {x : Str} {p pos : Pos} {e : Expr} {es : List Expr} {t : TA}
theorem pe_callX (F : FnOk X.prog X.w X.K X.mg X.base (CXe X.prog X.w) k f fd ps sp) (hr : Room k X.A) (hg : Gl X x) (hm : X.mg x = some (.ref f)) (hk : PySem.W.keepIn X.K (.ref f) = true) (hb : L2.Binds X.K fd ps ds) (hd : Vals dvs ds) (hx : Takes X Ex)
    (ha : PA X (e :: es) t) (hdb : (x == ("__debug__" : Str)) = false := by decide) (he : starEach (e :: es) X.env = (false, eval e X.env) :: starEach es X.env := by rfl) (hpl : (backTo pos (starEach es X.env)).any (·.1) = false := by rfl) :
    PE X (.Call (.Name x p) (e :: es) [] pos) (tCallX sp dvs Ex t) := by
  intro pins s σ H Q I h
  refine wpAny_Call_Name_kw (ld_glob I hg hm ?_ hdb)
  refine PySem.W.callWith_K (h₀ := X.base) I.ok.mod.kin hk (thn (ha pos pins s σ H _ I h) fun us s1 ⟨vs, H1, I1, r, q⟩ => ⟨I1.kIn, ?_⟩) he hpl
  have r2 : Vals (vs ++ dvs) (us ++ ds) := r.append hd
  have hl : (us ++ ds).length = ps.length := by rw [← r2.length]; exact F.len _ _ _ _ q
  refine wpAny_call (codeAny_mono (F.run X.A X.stack s1 H1 ⟨us, []⟩ (us ++ ds) (vs ++ dvs) Q (Ex σ) hr I1.env0 (hb s1 us I1.kIn hl) r2 q) fun r s' hq => ?_)
  cases r with
  | error e => exact hx pins σ H1 s1 e s' I1 hq
  | ok fl =>
    cases fl with
    | ret u => exact I1.after hq
    | next => exact False.elim hq
    | brk => exact False.elim hq
    | cont => exact False.elim hq
end
end RX
set_option maxHeartbeats 4000000
set_option maxRecDepth 100000
namespace RX
open PySem PySem.Spec PyProof.Rows L2 PySem.W
structure RoomM (k : Nat) (A : Around) : Prop where
  dp : A.depth + 3 * k + 5 < recursionLimit
  un : A.units + 16 * k + 200 < cLine
theorem RoomM.of {k : Nat} {A : Around} (r : Room k A) (h : Option Value) : RoomM k (A.mark h) := ⟨r.dp, r.un⟩
theorem RoomM.mono {j k : Nat} {A : Around} (r : RoomM k A) (h : j ≤ k) : RoomM j A := ⟨by have := r.dp; omega, by have := r.un; omega⟩
theorem RoomM.deeper {k : Nat} {A : Around} (r : RoomM (k + 1) A) (env : Env) : RoomM k (A.deeper env) :=
  ⟨by have := r.dp; show A.depth + 1 + 3 * k + 5 < _; omega, by have := r.un; show A.units + 3 + 16 * k + 200 < _; omega⟩
theorem RoomM.units {k : Nat} {A : Around} (r : RoomM k A) : A.units + 64 < cLine := by have := r.un; omega
structure FnM (P : Program) (w : World) (K : Frag) (mg : Str → Option Value) (base : Heap) (k : Nat) (f : Addr) (fd : FuncData) (ps : List Str) (sp : Sp) : Prop where
  len : ∀ vs H Q E, sp vs H Q E → vs.length = ps.length
  run : ∀ (A : Around) (outer : List Env) (s : Shared) (H : Hp) (args : Args) (us : List Value) (vs : List V) (Q : VK), RoomM k A → Env0 P w K mg base A outer s H → BindsTo s fd args (ps.zip us) → Vals vs us → sp vs H Q E0 →
    codeAny (model P w) A (.call (.ref f) args) (CR CX0 outer P w H s Q E0) s
abbrev cxM (P : Program) (w : World) (K : Frag) (mg : Str → Option Value) (base : Heap) (N : List Str) (qual : Str) (scope : Scope) (f : Addr) (cd : Value) (A : Around) (outer : List Env) (s : Shared) (H : Hp) : Cx :=
  { cxOf CX0 P w K mg base N qual scope f cd A outer s H E0 with calm := false, xe := fun _ _ => False }
theorem inv_reA {X : Cx} {pins : List (Addr × Obj)} {σ : L2.St} {H : Hp} {s : Shared} (I : L2.Inv X pins σ H s) (A' : Around) (hA : A'.frames = some X.stack) (E : Value → Shared → Prop) : L2.Inv { X with A := A', calm := false, xe := E } pins σ H s :=
  have ok := I.ok
  ⟨⟨ok.mod, ok.kind, ok.glob, ok.blt, ok.above, ok.inj, ok.has, ok.cab, (fun z => Bool.noConfusion z), hA, ok.stk, ok.exf, ok.bs, ok.bsz, ok.noex, ok.exfs, ok.funs, ok.frf⟩, I.os, I.bare, I.base, I.loc, I.cell, I.free, I.freeC, I.pin, I.hok, I.len⟩
theorem fnM_of {P : Program} {w : World} {K : Frag} {mg : Str → Option Value} {base : Heap} {k : Nat} {f : Addr} {name qual : Str} {params : Arguments} {body : List Stmt} {scope : Scope} {dV kV doc pm cdv ct oc : Value} {an od : Option Addr}
    {osl : Array (Option Value)} {N ps : List Str} {sp : Sp} (lk : K.lookup f = some ⟨oc, od, .func (fnOf name qual params body scope dV kV doc pm an cdv ct), osl⟩) (hcd : codeIn K cdv qual = true) (S : FnScope N ps scope)
    (len : ∀ vs H Q E, sp vs H Q E → vs.length = ps.length)
    (hbody : ∀ (A : Around) (outer : List Env) (s : Shared) (H : Hp) (vs : List V) (Q : VK), RoomM k (A.deeper (envOfC qual scope s.heap.objs.size f cdv)) → sp vs H Q E0 →
      ∃ t, PSs (cxM P w K mg base N qual scope f cdv A outer s H) body t ∧ t { nx := fun _ H' => Q .non H', rt := Q } (start N vs) H) :
    FnM P w K mg base (k + 1) f (fnOf name qual params body scope dV kV doc pm an cdv ct) ps sp := by
  refine ⟨len, fun A outer s H args us vs Q hr e0 hb r hsp => ?_⟩
  have hl := len _ _ _ _ hsp
  have KX : K.In s.heap := e0.mod.kin.keeps fun b o e => (e0.bs b o e).1
  have lim : s.heap.NoLimit := e0.mod.nolimit.keeps fun b o e => (e0.bs b o e).1
  have hkind : ∀ y ∈ ps.zip us, scope.names.lookup y.1 = some .local ∨ (scope.names.lookup y.1 = some .cell ∧ ((cellsFrom (s.heap.objs.size + 1) scope.names []).lookup y.1).isSome = true) := fun ⟨n, v⟩ hy => by
    rcases S.par n (List.of_mem_zip hy).1 with q | q
    · exact .inl q
    · exact .inr ⟨q, cellsFrom_some _ _ _ (.inl q)⟩
  refine codeAny_call_function (by have := hr.dp; omega) (KX _ _ lk) rfl S.co S.gen rfl (codeRec_of KX hcd) (hb _ _ _ _ ?_)
  refine wpAny_newFunctionEnv_cells S.kind hkind fun env he s1 x => ?_
  subst he
  refine ⟨lim.keeps x.toInCall.keep, codeAny_func ?_⟩
  obtain ⟨t, ht, hq⟩ := hbody A outer s H vs Q (hr.deeper _) hsp
  have e1 : Env0 P w K mg base { A with handled := none } outer s H := ⟨e0.frames, e0.mod, e0.bs, e0.bsz, e0.funs, e0.frf, e0.hok, e0.bare⟩
  have I0 : L2.Inv (cxOf CX0 P w K mg base N qual scope f cdv { A with handled := none } outer s H E0) [] (start N vs) H s1 := inv_start S rfl e1 hl r x
  have I : L2.Inv (cxM P w K mg base N qual scope f cdv A outer s H) [] (start N vs) H s1 := inv_reA I0 (A.deeper (envOfC qual scope s.heap.objs.size f cdv)) (Around.frames_deeper e0.frames) _
  refine wpAny_mono (ht [] s1 (start N vs) H _ I hq) (fun fl s' hs => ?_) fun e s' hs => False.elim hs
  have fin : ∀ {σ' : L2.St} {H' : Hp} {v : V} {u : Value}, L2.Inv (cxM P w K mg base N qual scope f cdv A outer s H) [] σ' H' s' → L2.RelV v u → Q v H' → CE outer P w H s Q u s' :=
    fun {σ' H' v u} J rv q => ⟨v, H', J.os, J.bare, J.base, J.hok, rv, q⟩
  cases fl with
  | ret u =>
    obtain ⟨v, σ', H', J, rv, q⟩ := hs
    exact fin J rv q
  | next =>
    obtain ⟨σ', H', J, q⟩ := hs
    exact fin (v := V.non) (u := Value.none) J rfl q
  | brk =>
    obtain ⟨_, _, _, q⟩ := hs
    exact False.elim q
  | cont =>
    obtain ⟨_, _, _, q⟩ := hs
    exact False.elim q
theorem funM_ok {P : Program} {w : World} {K : Frag} {mg : Str → Option Value} {base : Heap} {x qual : Str} {st : Stmt} {f : Addr} {fd : FuncData} {N ps : List Str} {k : Nat} {sp : Sp} (F : L2.Fun K x qual st f fd) (S : FnScope N ps (L2.defScope st)) (len : ∀ vs H Q E, sp vs H Q E → vs.length = ps.length)
    (hbody : ∀ (cdv : Value) (A : Around) (outer : List Env) (s : Shared) (H : Hp) (vs : List V) (Q : VK), RoomM k (A.deeper (envOfC qual (L2.defScope st) s.heap.objs.size f cdv)) → sp vs H Q E0 →
      ∃ t, PSs (cxM P w K mg base N qual (L2.defScope st) f cdv A outer s H) (L2.defBody st) t ∧ t { nx := fun _ H' => Q .non H', rt := Q } (start N vs) H) : FnM P w K mg base (k + 1) f fd ps sp := by
  obtain ⟨oc, od, kV, doc, pm, an, cdv, ct, osl, rfl, lk, hcd⟩ := F.ex
  exact fnM_of lk hcd S len fun A outer s H vs Q hr hsp => hbody cdv A outer s H vs Q hr hsp
theorem funX_ok {P : Program} {w : World} {K : Frag} {mg : Str → Option Value} {base : Heap} {x qual : Str} {st : Stmt} {f : Addr} {fd : FuncData} {N ps : List Str} {k : Nat} {sp : Sp} (F : L2.Fun K x qual st f fd) (S : FnScope N ps (L2.defScope st)) (len : ∀ vs H Q E, sp vs H Q E → vs.length = ps.length)
    (hbody : ∀ (cdv : Value) (A : Around) (outer : List Env) (s : Shared) (H : Hp) (vs : List V) (Q : VK) (E : XK), Room k (A.deeper (envOfC qual (L2.defScope st) s.heap.objs.size f cdv)) → sp vs H Q E →
      ∃ t, PSs (cxOf (CXe P w) P w K mg base N qual (L2.defScope st) f cdv A outer s H E) (L2.defBody st) t ∧ t { nx := fun _ H' => Q .non H', rt := Q } (start N vs) H) : FnOk P w K mg base (CXe P w) (k + 1) f fd ps sp := by
  obtain ⟨oc, od, kV, doc, pm, an, cdv, ct, osl, rfl, lk, hcd⟩ := F.ex
  exact fn_of lk hcd S len fun A outer s H vs Q E hr hsp => hbody cdv A outer s H vs Q E hr hsp
section
variable {X : Cx} {k : Nat} {f : Addr} {fd : FuncData} {ps : List Str} {sp : Sp} {dvs : List V} {ds : List Value} {x : Str} {p pos : Pos} {e : Expr} {es : List Expr} {t : TA}
theorem pe_callM (F : FnM X.prog X.w X.K X.mg X.base k f fd ps sp) (hr : RoomM k X.A) (hg : Gl X x) (hm : X.mg x = some (.ref f)) (hk : PySem.W.keepIn X.K (.ref f) = true) (hb : L2.Binds X.K fd ps ds) (hd : Vals dvs ds)
    (ha : PA X (e :: es) t) (hdb : (x == ("__debug__" : Str)) = false := by decide) (he : starEach (e :: es) X.env = (false, eval e X.env) :: starEach es X.env := by rfl) (hpl : (backTo pos (starEach es X.env)).any (·.1) = false := by rfl) :
    PE X (.Call (.Name x p) (e :: es) [] pos) (tCall sp dvs E0 t) := by
  intro pins s σ H Q I h
  refine wpAny_Call_Name_kw (ld_glob I hg hm ?_ hdb)
  refine PySem.W.callWith_K (h₀ := X.base) I.ok.mod.kin hk (thn (ha pos pins s σ H _ I h) fun us s1 ⟨vs, H1, I1, r, q⟩ => ⟨I1.kIn, ?_⟩) he hpl
  have r2 : Vals (vs ++ dvs) (us ++ ds) := r.append hd
  have hl : (us ++ ds).length = ps.length := by rw [← r2.length]; exact F.len _ _ _ _ q
  refine wpAny_call (codeAny_mono (F.run X.A X.stack s1 H1 ⟨us, []⟩ (us ++ ds) (vs ++ dvs) Q hr I1.env0 (hb s1 us I1.kIn hl) r2 q) fun r s' hq => ?_)
  cases r with
  | error e => exact False.elim hq
  | ok fl =>
    cases fl with
    | ret u => exact I1.after hq
    | next => exact False.elim hq
    | brk => exact False.elim hq
    | cont => exact False.elim hq
end
end RX
set_option maxHeartbeats 4000000
set_option maxRecDepth 100000
namespace RX
open PySem PySem.Spec PyProof.Rows L2 PySem.W
def xnIn (K : Frag) (C : Addr) : Bool := match K.lookup C with
  | some ⟨_, _, .cls cd, _⟩ => (match K.lookup cd.ns with | some ⟨_, _, .dict es _, _⟩ => es.toList.all strKey && (nsFind es "__init__").isNone | _ => false)
  | _ => false
theorem ns_of {K : Frag} {h : Heap} {C D : Addr} (X : K.In h) (e : xnIn K C = true) :
    ∃ mN, (∀ nm q N bs sn sub ab col dd k0 k1 k2 k3 k5, h.get? C = some (excClassObj nm q C N bs (.ref D :: veMro) true sn sub ab col dd k0 k1 k2 k3 k5 "ValueError.__new__") → h.Ns N mN) ∧ mN "__init__" = none := by
  unfold xnIn at e
  split at e
  · rename_i c d cd sl hC
    split at e
    · rename_i c3 d3 es n3 sl3 hN
      rw [Bool.and_eq_true] at e
      refine ⟨nsFind es, fun nm q N bs sn sub ab col dd k0 k1 k2 k3 k5 hg => ?_, by simpa using e.2⟩
      have z := (X _ _ hC).symm.trans hg
      have z2 : cd.ns = N := congrArg (fun o : Option Obj => match o with | some ⟨_, _, .cls cd, _⟩ => cd.ns | _ => 0) z
      subst z2
      exact ⟨_, es, n3, X _ _ hN, rfl, strKeys_of e.1, fun _ => rfl⟩
    · cases e
  · cases e
def sRaise0 (C : Addr) (E : XK) : TS := fun _ _ H => E (.ref C) none H
theorem ps_raise0 {X : Cx} {k : Nat} {C D : Addr} {E : XK} {x : Str} {np pos cpos : Pos} (c : xcIn X.K C D = true) (cn : xnIn X.K C = true) (kp : keepIn X.K (.ref C) = true) (hr : Room k X.A) (hg : Gl X x) (hm : X.mg x = some (.ref C))
    (hst : X.stack = X.env :: X.outer) (hf : X.env.frame = some X.env.locals) (hex : X.ex = [])
    (hxe : ∀ e s', wpAny (model X.prog X.w) X.A (leaving X.env e) (fun _ s'' => CXe X.prog X.w X.outer X.H₀ X.s₀ E e s'') (fun e' s'' => CXe X.prog X.w X.outer X.H₀ X.s₀ E e' s'') s' → X.xe e s')
    (hdb : (x == ("__debug__" : Str)) = false := by decide) : PS X (.Raise (some (.Call (.Name x np) [] [] cpos)) none pos) (sRaise0 C E) := by
  intro pins s σ H Dn I h
  refine exec_raise (C := C) (D := D) hr.hd (wpAny_Call_Name_kw (ld_glob I hg hm ?_ hdb))
  refine PySem.W.callWith_K0 I.kIn kp ?_
  obtain ⟨hp, g, d, tk, os⟩ := s
  refine call_exc_plain (clsAt_of I.kIn c) (ns_of I.kIn cn) (fun h' e hM => ?_) (Nat.zero_le _)
  obtain ⟨t, he, ht, htt⟩ := hM.there
  have I1 := I.kept (h' := h') (t' := tk) hM.keeps
  have noA : ∀ b : Addr, b ∉ X.ex := fun b z => by rw [hex] at z; cases z
  have hn : X.s₀.heap.get? e = none := by
    cases q : X.s₀.heap.get? e with
    | none => rfl
    | some o =>
      obtain ⟨o', q'⟩ := I.base.there e o q (noA e)
      have := hM.new
      rw [show hp.get? e = some o' from q'] at this
      cases this
  have hfree : H e = none := by
    cases q : H e with
    | none => rfl
    | some u =>
      obtain ⟨o, ho⟩ := objAt (I.hok e u q)
      have := hM.new
      rw [show hp.get? e = some o from ho] at this
      cases this
  exact ⟨e, t, none, rfl, clsAt_of I1.kIn c, he, hxe _ _ (raise_leaves hst hf hex I1 hn he hfree h)⟩
theorem pe_fldXK {X : Cx} {K : Frag} {f : Str} {e : Expr} {ta : TE} {pos : Pos} (hK : X.K = K) (he : PE X e ta) (hb : attributeBase e f X.env (eval e X.env) = eval e X.env) : PE X (.Attribute e f pos) (tFldX K ta f) := by
  subst hK
  exact pe_fldX he hb
end RX
set_option Elab.async false
set_option linter.all false
set_option maxRecDepth 100000
set_option maxHeartbeats 4000000
namespace My
open PySem L2
def top (i : Nat) : Stmt := PySem.Challenge.pw_tintties_k82_no_text.main.body.getD i (.Pass ⟨0, 0, 0, 0⟩)
def Dr (ns : List Int) : Prop := ns.length ≤ 63
section
variable {P : Program} {w : World} {K : PySem.W.Frag} {mg : Str → Option Value} {base : Heap}
abbrev sDraw : Stmt := top 71
def spDraw (K : PySem.W.Frag) : Sp := fun vs H Q _ => ∃ (a : Addr) (ns : List Int) (k : Int), vs = [.ref a, .int k] ∧ SqL K H a (ns.map V.int) ∧ Dr ns ∧ 0 ≤ k ∧ k ≤ 1000000 ∧ Q (.int (draw ns k)) H
theorem scDraw : FnScope ["_law_script", "_law_k", "_law_cell"] ["_law_script", "_law_k"] (defScope sDraw) := ⟨rfl, rfl, rfl, by decide +kernel, rfl, by decide +kernel, by decide +kernel⟩
theorem ok_draw {f : Addr} {fd : FuncData} (F : Fun K "_law_draw" "_law_draw" sDraw f fd) (T : Bi mg) : FnOk P w K mg base CX0 1 f fd ["_law_script", "_law_k"] (spDraw K) := by
  refine F.ok scDraw (fun vs H Q E h => ?_) (fun cdv A outer s H vs Q E hr h => ?_)
  · obtain ⟨a, ns, k, rfl, _⟩ := h
    rfl
  · obtain ⟨a, ns, k, rfl, hS, hd, k0, k1, q⟩ := h
    have hl : ns.length ≤ 63 := hd
    refine ⟨_, pss_cons (ps_set (i := 2) scDraw.nd rfl (Or.inl rfl) (pe_op op_add (pe_op op_mul pe_int (pv 1)) pe_int))
      (pss_cons (ps_if (pt_cmpR op_gt (pe_callB call_len_seq (by rfl) T.len bLen (pa_c (pv 0) pa_nil)) pe_int (nomark _))
        (pss_one (ps_set (i := 2) scDraw.nd rfl (Or.inl rfl) (pe_op op_add (pe_op op_add (pe_op op_mod (pe_ix ix_list (pv 0) (pe_op op_mod (pv 1) (pe_callB call_len_seq (by rfl) T.len bLen (pa_c (pv 0) pa_nil))) (fun _ _ => rfl)) pe_int)
          (pe_op op_mul (pe_op op_fdiv (pv 1) (pe_callB call_len_seq (by rfl) T.len bLen (pa_c (pv 0) pa_nil))) pe_int)) pe_int))) pss_nil)
      (pss_cons (ps_set (i := 2) scDraw.nd rfl (Or.inl rfl) (pe_op op_mod (pe_op op_add (pe_op op_add (pe_op op_mul (pv 2) pe_int) (pe_op op_mul (pe_op op_mul (pv 1) (pv 1)) pe_int)) pe_int) pe_int))
      (pss_one (ps_ret (pe_op op_mod (pe_op op_mul (pv 2) (pv 2)) pe_int))))), ?_⟩
    refine ⟨_, rfl, _, _, rfl, rfl, .inl ⟨by decide, by decide⟩, _, _, rfl, rfl, ?_⟩
    refine ⟨_, rfl, a, _, rfl, .inl hS, _, _, rfl, rfl, _, rfl, ?_⟩
    have last : ∀ c : Int, c = (if ns.length > 0 then ns.getD (k % (ns.length : Int)).toNat 0 % 2147483629 + k / (ns.length : Int) * 5381 + 1 else 3 * k + 1) →
        (tSeq (tAsg (tOp (rI (fun _ j => 0 < j) fun i j => .int (i % j)) (tOp (rI0 fun i j => .int (i + j)) (tOp (rI0 fun i j => .int (i + j)) (tOp (rI CMul fun i j => .int (i * j)) (tVar 2) (tC (.int 69621))) (tOp (rI CMul fun i j => .int (i * j)) (tOp (rI CMul fun i j => .int (i * j)) (tVar 1) (tVar 1)) (tC (.int 40692)))) (tC (.int 7))) (tC (.int 2147483647))) (gName 2))
          (tRet (tOp (rI (fun _ j => 0 < j) fun i j => .int (i % j)) (tOp (rI CMul fun i j => .int (i * j)) (tVar 2) (tVar 2)) (tC (.int 2147483587))))) { nx := fun _ H' => Q .non H', rt := Q } [some (.ref a), some (.int k), some (.int c)] H := by
      intro c hc
      refine ⟨_, rfl, _, _, rfl, rfl, .inr ⟨by decide, by decide⟩, _, rfl, _, rfl, _, _, rfl, rfl, .inl ⟨by omega, by omega⟩, _, _, rfl, rfl, .inr ⟨by decide, by decide⟩, _, _, rfl, rfl, _, _, rfl, rfl, _, _, rfl, rfl, (by show (0 : Int) < 2147483647; decide), ?_⟩
      have b1 := mod_lo (n := c * 69621 + k * k * 40692 + 7) (p := 2147483647) (by decide)
      have b2 := mod_hi (n := c * 69621 + k * k * 40692 + 7) (p := 2147483647) (by decide)
      refine ⟨_, rfl, _, rfl, _, _, rfl, rfl, .inl ⟨by omega, by omega⟩, _, _, rfl, rfl, (by show (0 : Int) < 2147483587; decide), ?_⟩
      have e : (c * 69621 + k * k * 40692 + 7) % 2147483647 * ((c * 69621 + k * k * 40692 + 7) % 2147483647) % 2147483587 = draw ns k := by
        rw [hc]; rfl
      show Q (.int _) H
      rw [e]
      exact q
    refine ite2 (fun hc => ?_) (fun hc => ?_)
    · have hp : 0 < ns.length := by
        have := of_decide_eq_true hc
        rw [List.length_map] at this
        omega
      have hp' : (0 : Int) < ((ns.map V.int).length : Int) := by rw [List.length_map]; omega
      have m1 := mod_lo (n := k) hp'
      have m2 := mod_hi (n := k) hp'
      rw [List.length_map] at m2
      have ix : L2.atI (ns.map V.int) (k % ((ns.map V.int).length : Int)) = some (V.int (ns.getD (k % (ns.length : Int)).toNat 0)) := by
        have e0 : k % ((ns.map V.int).length : Int) = (((k % (ns.length : Int)).toNat : Nat) : Int) := by
          rw [List.length_map] at m1 ⊢
          omega
        rw [e0]
        refine atI_nat ?_
        have hlt : (k % (ns.length : Int)).toNat < ns.length := by
          rw [List.length_map] at m1
          omega
        rw [List.getElem?_map, List.getD_eq_getElem?_getD, List.getElem?_eq_getElem hlt]
        rfl
      refine ⟨_, rfl, _, rfl, _, rfl, a, _, rfl, .inl hS, _, _, rfl, rfl, hp', a, _, _, _, rfl, rfl, hS, ix, _, _, rfl, rfl, (by show (0 : Int) < 2147483629; decide), _, rfl, _, rfl, a, _, rfl, .inl hS, _, _, rfl, rfl, ⟨hp', by rw [List.length_map]; omega⟩, _, _, rfl, rfl, .inr ⟨by decide, by decide⟩, _, _, rfl, rfl, _, _, rfl, rfl, ?_⟩
      refine last _ ?_
      rw [if_pos hp, List.length_map]
    · have hp : ¬ ns.length > 0 := by
        intro z
        refine hc (decide_eq_true ?_)
        rw [List.length_map]
        omega
      refine last _ ?_
      rw [if_neg hp]
end
end My
set_option Elab.async false
set_option linter.all false
set_option maxRecDepth 100000
set_option maxHeartbeats 400000
namespace L2
open PySem PySem.Spec PyProof.Rows
theorem op_notInK {X : Cx} {K : PySem.W.Frag} (hK : X.K = K) : OpR X (compareOp .NotIn) (rIn K true) := by
  subst hK
  exact op_notIn_seq
theorem ix_listK {X : Cx} {K : PySem.W.Frag} (hK : X.K = K) : IxR X (rIxL K) := by
  subst hK
  exact ix_list
theorem mono_bm {K : PySem.W.Frag} {T : String} {r : V → List V → Hp → VK → Prop} {to : TE} {t : TA} (ho : MonoE to) (ha : MonoA t) (hr : ∀ x vs H Q Q', (∀ v H, Q v H → Q' v H) → r x vs H Q → r x vs H Q') : MonoE (tBM K T r to t) :=
  fun σ H Q Q' k q => ho σ H _ _ (fun x H1 ⟨ty, q⟩ => ⟨ty, ha σ H1 _ _ (fun vs H2 q => hr _ _ _ _ _ k q) q⟩) q
theorem mono_rSplit : ∀ x vs H Q Q', (∀ v H, Q v H → Q' v H) → rSplit x vs H Q → rSplit x vs H Q' :=
  fun x vs H Q Q' k ⟨z, y, e1, e2, a, b, c, d, q⟩ => ⟨z, y, e1, e2, a, b, c, d, fun l H' s h => k _ _ (q l H' s h)⟩
theorem call_dictK {X : Cx} : CallR X (.type "dict") (fun xs H Q => ∃ a kvs, xs = [.ref a] ∧ H a = some (.dK kvs) ∧ ∀ p, H p = none → Q (.ref p) (upd H p (.dK kvs))) := by
  intro pins s σ H xs us Q I r h
  obtain ⟨a, kvs, rfl, hd, q⟩ := h
  obtain ⟨u, rfl, rx⟩ := vals1 r
  cases (show u = Value.ref a from rx)
  exact d_copyOf I (.inl hd) fun p s' hp I' => ⟨.ref p, _, I', rfl, q p hp⟩
end L2
namespace Tx
open PySem
theorem part_le (s : Str) : ∀ (l : List Str) (p : Str), p ∈ l → p.length ≤ (Str.join s l).length
  | [a], p, h => by rw [List.mem_singleton.mp h]; exact Nat.le_refl _
  | a :: b :: l, p, h => by
    rw [join_two, len_app, len_app]
    rcases List.mem_cons.mp h with e | h
    · rw [e]; omega
    · have := part_le s (b :: l) p h
      omega
theorem split_part {x y p : Str} (h : p ∈ Txt.split x y) : p.length ≤ x.length := by
  have := part_le y _ p h
  rwa [StrLaws.join_split] at this
theorem len_cps (z : Str) : z.cps.toList.length = z.length := by simp [Str.length]
theorem in_sign (c : Nat) (z : Str) : (!(Builtin.Str.occurrences z ⟨#[c]⟩ 0 z.length 1).isEmpty) = decide (c ∈ z.cps.toList) := by
  rw [PyProof.Rows.empty_one, Bool.not_not]
abbrev sp : Str := Str.ofString " "
abbrev nln : Str := Str.ofString "\n"
def rowsB (z : Str) : List (List Str) := if z.length = 0 then [] else (Txt.split z nln).map fun l => Txt.split l sp
def meetB : List Str → Bool
  | [a, b] => nameB a && (nameB b && !decide (a = b))
  | [a, b, c] => nameB a && (nameB b && (!decide (a = b) && hourB c))
  | _ => false
end Tx
namespace My
open PySem L2 Tx
def compS : Expr → Scope
  | .ListComp _ _ s _ => s
  | .Call _ [e] _ _ => compS e
  | .BoolOp _ [_, e] _ => compS e
  | .IfExp _ e _ _ => compS e
  | .UnaryOp _ e _ => compS e
  | .BinOp _ _ e _ => compS e
  | _ => { kind := .function, names := [], isGenerator := false, isCoroutine := false }
def retX : Stmt → Expr
  | .Return (some e) _ => e
  | .Assign _ e _ => e
  | .If e _ _ _ => e
  | _ => .Constant .none 0 ⟨0, 0, 0, 0⟩
def stAt (n i : Nat) : Stmt := (defBody (top n)).getD i (.Pass ⟨0, 0, 0, 0⟩)
theorem bAll : bootBuiltins "all" = some (.builtin "all") := by decide +kernel
theorem bStr : bootBuiltins "str" = some (.type "str") := by decide +kernel
theorem dec_str {a b : Str} : decide (V.str a = V.str b) = decide (a = b) := by
  rw [Bool.eq_iff_iff, decide_eq_true_iff, decide_eq_true_iff]
  exact ⟨fun e => V.str.inj e, fun e => by rw [e]⟩
def lastB : List Str → Bool
  | [] => true
  | [c] => hourB c
  | _ => false
theorem meet_eq {a b : Str} : ∀ {r : List Str}, meetB (a :: b :: r) = (nameB a && (nameB b && (!decide (a = b) && lastB r)))
  | [] => by rw [show lastB [] = true from rfl, Bool.and_true]; rfl
  | [c] => rfl
  | c :: d :: r => by rw [show lastB (c :: d :: r) = false from rfl, Bool.and_false, Bool.and_false, Bool.and_false]; rfl
def Rws (H : Hp) (xs : List V) (ws : List (List Str)) : Prop := xs.length = ws.length ∧ ∀ (i : Nat) w, ws[i]? = some w → ∃ a, xs[i]? = some (.ref a) ∧ H a = some (.lst (w.map V.str))
theorem Rws.keep {H H' : Hp} {xs : List V} {ws : List (List Str)} (r : Rws H xs ws) (s : Same H H') : Rws H' xs ws := ⟨r.1, fun i w h => let ⟨a, e, g⟩ := r.2 i w h; ⟨a, e, s _ _ g⟩⟩
theorem Rws.nil {H : Hp} : Rws H [] [] := ⟨rfl, fun i w h => by cases h⟩
theorem Rws.snoc {H : Hp} {xs : List V} {ws : List (List Str)} {a : Addr} {w : List Str} (r : Rws H xs ws) (h : H a = some (.lst (w.map V.str))) : Rws H (xs ++ [.ref a]) (ws ++ [w]) := by
  refine ⟨by rw [List.length_append, List.length_append, r.1]; rfl, fun i w' hi => ?_⟩
  by_cases hl : i < ws.length
  · rw [List.getElem?_append_left hl] at hi
    obtain ⟨b, e, g⟩ := r.2 i w' hi
    exact ⟨b, by rw [List.getElem?_append_left (by rw [r.1]; exact hl)]; exact e, g⟩
  · have h2 := (List.getElem?_eq_some_iff.mp hi).1
    rw [List.length_append, List.length_singleton] at h2
    have e : i = ws.length := by omega
    subst e
    rw [List.getElem?_append_right (Nat.le_refl _), Nat.sub_self] at hi
    cases hi
    exact ⟨a, by rw [← r.1, List.getElem?_append_right (Nat.le_refl _), Nat.sub_self]; rfl, h⟩
section
variable {P : Program} {w : World} {K : PySem.W.Frag} {mg : Str → Option Value} {base : Heap}
abbrev sWd : Stmt := top 60
abbrev nWd : List Str := ["thing", "signs", "most"]
abbrev wdScope : Scope := compS (retX (stAt 60 0))
def spWd : Sp := fun vs H Q _ => ∃ (z sg : Str) (m : Int), vs = [.str z, .str sg, .int m] ∧ z.length ≤ 100000 ∧ ∀ H', Same H H' → Q (.bl (wordB sg m z)) H'
theorem ndWd : (["sign", "signs"] : List Str).Nodup := by decide +kernel
theorem scWd : FnScope nWd nWd (defScope sWd) := ⟨rfl, rfl, rfl, by decide +kernel, rfl, by decide +kernel, by decide +kernel⟩
theorem blkWd {f : Addr} {cdv : Value} {A : Around} {outer : List Env} {s : Shared} {H : Hp} {E : XK} :
    Blk (cxOf CX0 P w K mg base nWd "is_word" (defScope sWd) f cdv A outer s H E).nox wdScope [("signs", s.heap.objs.size + 1)] ["sign", "signs"] [none, some 1] := by
  refine ⟨rfl, rfl, by decide +kernel, by decide +kernel, fun p hp => ?_, fun y hy e => ?_, ⟨rfl, rfl, rfl⟩, trivial⟩
  · rw [List.mem_singleton.mp hp]
    rfl
  · have hy' : y ∈ [((PySem.Str.ofString ".0" : Str), NameKind.local), (PySem.Str.ofString "sign", .local), (PySem.Str.ofString "signs", .free)] := hy
    simp only [List.mem_cons, List.not_mem_nil, or_false] at hy'
    rcases hy' with rfl | rfl | rfl <;> first | rfl | cases e
theorem ok_wd {f : Addr} {fd : FuncData} (F : Fun K "is_word" "is_word" sWd f fd) (T : Bi mg) (hall : mg "all" = none) : FnOk P w K mg base CX0 1 f fd nWd spWd := by
  refine F.ok scWd (fun vs H Q E h => ?_) (fun cdv A outer s H vs Q E hr h => ?_)
  · obtain ⟨z, sg, m, rfl, _⟩ := h
    rfl
  · obtain ⟨z, sg, m, rfl, hz, q⟩ := h
    refine ⟨_, pss_one (ps_ret (pe_and (pe_chain op_le op_le pe_int (pe_callB call_len_str rfl T.len bLen (pa_c (pv 0) pa_nil)) (pv 2)) (pe_one (pe_callB (call_all rfl) rfl hall bAll (pa_c (pe_lcS blkWd rfl (pv 0) (mono_var 0)
      (fun C fp s H => pg_name (i := 0) ndWd rfl (Or.inl rfl) (hf := Or.inr rfl)) (fun C fp s H => pts_nil) (fun C fp s H => pe_cmpR op_in_str (pv 0) (pv 1) rfl)) pa_nil))))), ?_⟩
    refine ⟨_, rfl, z, rfl, leMil hz, _, _, rfl, rfl, _, rfl, ?_⟩
    refine ite2 (fun h1 => ⟨_, rfl, _, _, rfl, rfl, _, rfl, ?_⟩) (fun h1 => ⟨_, rfl, iteF (by rw [show wordB sg m z = false from by unfold wordB; rw [Bool.eq_false_iff.mpr h1]; rfl] at q; exact q H (Same.refl H))⟩)
    refine ite2 (fun h2 => ?_) (fun h2 => by rw [show wordB sg m z = false from by unfold wordB; rw [h1, Bool.eq_false_iff.mpr h2]; rfl] at q; exact q H (Same.refl H))
    refine ⟨_, rfl, z, rfl, hz, fun i ys σ H' => Same H H' ∧ ys = ((z.cps.toList.take i).map fun c => V.bl (decide (c ∈ sg.cps.toList))) ∧ ∃ v0, σ = [v0, some (.str sg)], ⟨Same.refl H, rfl, none, rfl⟩, fun i ys σ H' hi ⟨e1, e2, _⟩ => ?_, fun i c ys σ H' hc ⟨e1, e2, v0, e3⟩ => ?_, fun ys σ H' ⟨e1, e2, _⟩ l H2 s2 hl => ?_⟩
    · subst e2
      rw [List.length_map, List.length_take]
      omega
    · subst e2 e3
      refine ⟨_, rfl, _, rfl, _, _, rfl, rfl, e1, ?_, _, rfl⟩
      rw [in_sign, List.take_succ, List.map_append, Array.getElem?_toList, hc]
      rfl
    · refine ⟨l, z.cps.toList.map fun c => decide (c ∈ sg.cps.toList), rfl, SqL.of (hl.trans ?_), ?_⟩
      · rw [e2, List.take_of_length_le (by rw [len_cps]; exact Nat.le_refl _), List.map_map]
        rfl
      · have e : wordB sg m z = (z.cps.toList.map fun c => decide (c ∈ sg.cps.toList)).all id := by
          unfold wordB
          rw [h1, h2, List.all_map]
          rfl
        rw [← e]
        exact q H2 (Same.trans e1 s2)
abbrev sNm : Stmt := top 61
def spNm : Sp := fun vs H Q _ => ∃ (z : Str), vs = [.str z] ∧ z.length ≤ 100000 ∧ ∀ H', Same H H' → Q (.bl (nameB z)) H'
theorem scNm : FnScope ["thing"] ["thing"] (defScope sNm) := ⟨rfl, rfl, rfl, by decide +kernel, rfl, by decide +kernel, by decide +kernel⟩
theorem ok_nm {f : Addr} {fd : FuncData} {tL tM : Tok} (F : Fun K "is_name" "is_name" sNm f fd) (T : Bi mg) (hst : mg "str" = none) (mL : mg "LETTERS" = some (.str letters tL)) (mM : mg "MOST_LETTERS" = some (.int 8 tM)) (FW : FnE P w K mg base "is_word" nWd 1 spWd) : FnOk P w K mg base CX0 2 f fd ["thing"] spNm := by
  refine F.ok scNm (fun vs H Q E h => ?_) (fun cdv A outer s H vs Q E hr h => ?_)
  · obtain ⟨z, rfl, _⟩ := h
    rfl
  · obtain ⟨z, rfl, hz, q⟩ := h
    refine ⟨_, pss_one (ps_ret (pe_and (pe_callB call_isinst rfl T.isi bIsi (pa_c (pv 0) (pa_c (pe_bltn (v := .ty "str") rfl hst bStr rfl) pa_nil)))
      (pe_one (pe_fc FW hr (pa_c (pv 0) (pa_c (pe_glob (v := .str letters) rfl mL ⟨_, rfl⟩) (pa_c (pe_glob (v := .int 8) rfl mM ⟨_, rfl⟩) pa_nil))))))), ?_⟩
    exact ⟨_, rfl, _, _, _, _, rfl, .str _, kit K "str" "str" true (by decide +kernel), _, rfl, iteT ⟨_, rfl, z, letters, 8, rfl, hz, fun H' s' => q H' s'⟩⟩
abbrev sHo : Stmt := top 62
def spHo : Sp := fun vs H Q _ => ∃ (z : Str), vs = [.str z] ∧ z.length ≤ 100000 ∧ ∀ H', Same H H' → Q (.bl (hourB z)) H'
theorem scHo : FnScope ["word"] ["word"] (defScope sHo) := ⟨rfl, rfl, rfl, by decide +kernel, rfl, by decide +kernel, by decide +kernel⟩
theorem ok_ho {f : Addr} {fd : FuncData} {tL tM : Tok} (F : Fun K "is_hour" "is_hour" sHo f fd) (mL : mg "FIGURES" = some (.str figures tL)) (mM : mg "MOST_FIGURES" = some (.int 3 tM)) (FW : FnE P w K mg base "is_word" nWd 1 spWd) : FnOk P w K mg base CX0 2 f fd ["word"] spHo := by
  refine F.ok scHo (fun vs H Q E h => ?_) (fun cdv A outer s H vs Q E hr h => ?_)
  · obtain ⟨z, rfl, _⟩ := h
    rfl
  · obtain ⟨z, rfl, hz, q⟩ := h
    refine ⟨_, pss_one (ps_ret (pe_and (pe_fc FW hr (pa_c (pv 0) (pa_c (pe_glob (v := .str figures) rfl mL ⟨_, rfl⟩) (pa_c (pe_glob (v := .int 3) rfl mM ⟨_, rfl⟩) pa_nil))))
      (pe_one (pe_or (pe_cmpR op_eq (pv 0) pe_str (nomark _)) (pe_one (pe_cmpR op_ne (pe_ix ix_str (pv 0) pe_int (fun _ _ => rfl)) pe_str (nomark _))))))), ?_⟩
    refine ⟨_, rfl, z, figures, 3, rfl, hz, fun H' s' => ⟨_, rfl, ite2 (fun h1 => ?_) (fun h1 => ?_)⟩⟩
    · refine ⟨_, rfl, rfl, _, rfl, ite2 (fun h2 => ?_) (fun h2 => ?_)⟩
      · have e : hourB z = true := by
          unfold hourB
          have e2 : z = zero := by have := of_decide_eq_true h2; cases this; rfl
          rw [h1, decide_eq_true e2]
          rfl
        rw [e] at q
        exact q H' s'
      · have hl : 0 < z.cps.toList.length := by
          rw [len_cps]
          unfold wordB at h1
          have := of_decide_eq_true (Bool.and_eq_true_iff.mp h1).1
          omega
        have g0 : z.cps.toList[0]? = some z.cps.toList[0] := List.getElem?_eq_getElem hl
        refine ⟨_, rfl, z, 0, z.cps.toList[0], rfl, rfl, leMil hz, atI_nat g0, rfl, ?_⟩
        have e : hourB z = !decide (V.str ⟨#[z.cps.toList[0]]⟩ = V.str zero) := by
          unfold hourB
          have e2 : ¬ z = zero := fun e2 => h2 (decide_eq_true (by rw [e2]; rfl))
          rw [h1, decide_eq_false e2, List.head?_eq_getElem?, g0, Bool.true_and, Bool.false_or]
          congr 1
          rw [Bool.eq_iff_iff, decide_eq_true_iff, decide_eq_true_iff]
          constructor
          · intro e3; rw [Option.some.inj e3]; rfl
          · intro e3
            have e4 : (⟨#[z.cps.toList[0]]⟩ : Str) = ⟨#[48]⟩ := V.str.inj e3
            have e5 := congrArg (fun s : Str => s.cps.toList) e4
            rw [(List.cons.inj (show [z.cps.toList[0]] = [48] from e5)).1]
        rw [e] at q
        exact q H' s'
    · have e : hourB z = false := by
        unfold hourB
        rw [Bool.eq_false_iff.mpr h1]
        rfl
      rw [e] at q
      exact q H' s'
abbrev sMg : Stmt := top 63
def spMg (K : PySem.W.Frag) : Sp := fun vs H Q _ => ∃ (a : Addr) (ws : List Str), vs = [.ref a] ∧ SqL K H a (ws.map V.str) ∧ H a = some (.lst (ws.map V.str)) ∧ (∀ z ∈ ws, z.length ≤ 100000) ∧ ∀ H', Same H H' → Q (.bl (meetB ws)) H'
theorem scMg : FnScope ["words"] ["words"] (defScope sMg) := ⟨rfl, rfl, rfl, by decide +kernel, rfl, by decide +kernel, by decide +kernel⟩
theorem ok_mg {f : Addr} {fd : FuncData} (F : Fun K "is_meeting" "is_meeting" sMg f fd) (T : Bi mg) (FN : FnE P w K mg base "is_name" ["thing"] 2 spNm) (FH : FnE P w K mg base "is_hour" ["word"] 2 spHo) : FnOk P w K mg base CX0 3 f fd ["words"] (spMg K) := by
  refine F.ok scMg (fun vs H Q E h => ?_) (fun cdv A outer s H vs Q E hr h => ?_)
  · obtain ⟨a, ws, rfl, _⟩ := h
    rfl
  · obtain ⟨a, ws, rfl, _, hS, hz, q⟩ := h
    refine ⟨_, pss_cons (ps_if (PW.pt (pw_or (pt_not (pt_chain op_le op_le pe_int (pe_callB call_len_seq rfl T.len bLen (pa_c (pv 0) pa_nil)) pe_int)) (pw_or (pt_not (pt_val (pe_fc FN hr (pa_c (pe_ix ix_list (pv 0) pe_int (fun _ _ => rfl)) pa_nil))))
        (pw_or1 (pt_not (pt_val (pe_fc FN hr (pa_c (pe_ix ix_list (pv 0) pe_int (fun _ _ => rfl)) pa_nil)))))))) (pss_one (ps_ret pe_bl)) pss_nil)
      (pss_one (ps_ret (pe_and (pe_cmpR op_ne (pe_ix ix_list (pv 0) pe_int (fun _ _ => rfl)) (pe_ix ix_list (pv 0) pe_int (fun _ _ => rfl)) (nomark _))
        (pe_one (pe_or (pe_cmpR op_eq (pe_callB call_len_seq rfl T.len bLen (pa_c (pv 0) pa_nil)) pe_int (nomark _)) (pe_one (pe_fc FH hr (pa_c (pe_ix ix_list (pv 0) pe_int (fun _ _ => rfl)) pa_nil)))))))), ?_⟩
    refine ⟨_, rfl, a, _, rfl, .inl (SqL.of hS), _, _, rfl, rfl, _, rfl, ?_⟩
    rw [List.length_map]
    have few : ∀ l : List Str, l.length < 2 ∨ 3 < l.length → meetB l = false := by
      intro l h
      match l with
      | [] => rfl
      | [_] => rfl
      | [_, _] => simp at h
      | [_, _, _] => simp at h
      | _ :: _ :: _ :: _ :: _ => rfl
    refine ite2 (fun h1 => ⟨_, _, rfl, rfl, _, rfl, ite2 (fun h2 => ?_) (fun h2 => ?_)⟩) (fun h1 => ?_)
    · rw [few ws (.inr (by have := of_decide_eq_false (Bool.not_eq_true' _ ▸ h2); omega))] at q
      exact iteT (q H (Same.refl H))
    · have l2 := of_decide_eq_true h1
      have l3 : (ws.length : Int) ≤ 3 := by
        by_cases z : (ws.length : Int) ≤ 3
        · exact z
        · exact absurd (by rw [decide_eq_false z]; rfl) h2
      obtain ⟨A1, B1, r, rfl, hr1⟩ : ∃ A1 B1 r, ws = A1 :: B1 :: r ∧ r.length ≤ 1 := by
        match ws, l2, l3 with
        | [], l2, _ => exact absurd l2 (by decide)
        | [_], l2, _ => exact absurd l2 (by simp)
        | A1 :: B1 :: r, _, l3 => exact ⟨A1, B1, r, rfl, by simp only [List.length_cons] at l3; omega⟩
      have zA := hz A1 (by simp)
      have zB := hz B1 (by simp)
      rw [meet_eq] at q
      refine ⟨_, rfl, a, _, 0, _, rfl, rfl, SqL.of hS, atI_nat (j := 0) rfl, A1, rfl, zA, fun H1 s1 => ⟨_, rfl, ite2 (fun h3 => iteT ?_) (fun h3 => ?_)⟩⟩
      · rw [show nameB A1 = false from Bool.not_eq_true' _ ▸ h3] at q
        exact q H1 s1
      have h3' : nameB A1 = true := by cases z : nameB A1 with
        | true => rfl
        | false => rw [z] at h3; exact absurd rfl h3
      rw [h3', Bool.true_and] at q
      have hS1 := s1 _ _ hS
      refine ⟨_, rfl, a, _, 1, _, rfl, rfl, SqL.of hS1, atI_nat (j := 1) rfl, B1, rfl, zB, fun H2 s2 => ⟨_, rfl, ite2 (fun h4 => ?_) (fun h4 => ?_)⟩⟩
      · rw [show nameB B1 = false from Bool.not_eq_true' _ ▸ h4] at q
        exact q H2 (Same.trans s1 s2)
      have h4' : nameB B1 = true := by cases z : nameB B1 with
        | true => rfl
        | false => rw [z] at h4; exact absurd rfl h4
      rw [h4', Bool.true_and] at q
      have hS2 := s2 _ _ hS1
      have s12 := Same.trans s1 s2
      refine ⟨_, rfl, a, _, 0, _, rfl, rfl, SqL.of hS2, atI_nat (j := 0) rfl, _, rfl, a, _, 1, _, rfl, rfl, SqL.of hS2, atI_nat (j := 1) rfl, rfl, _, rfl, ?_⟩
      rw [dec_str]
      refine ite2 (fun h5 => ?_) (fun h5 => ?_)
      · rw [h5, Bool.true_and] at q
        refine ⟨_, rfl, a, _, rfl, .inl (SqL.of hS2), rfl, _, rfl, ite2 (fun h6 => ?_) (fun h6 => ?_)⟩
        · have e : r = [] := by
            have := of_decide_eq_true h6
            cases r with
            | nil => rfl
            | cons c r =>
              have := V.int.inj this
              simp only [List.length_map, List.length_cons] at this
              omega
          subst e
          exact q H2 s12
        · obtain ⟨C1, rfl⟩ : ∃ C1, r = [C1] := by
            cases r with
            | nil => exact absurd rfl h6
            | cons c r =>
              have : r = [] := List.eq_nil_of_length_eq_zero (by rw [List.length_cons] at hr1; omega)
              exact ⟨c, by rw [this]⟩
          exact ⟨_, rfl, a, _, 2, _, rfl, rfl, SqL.of hS2, atI_nat (j := 2) rfl, C1, rfl, hz C1 (by simp), fun H3 s3 => q H3 (Same.trans s12 s3)⟩
      · rw [Bool.eq_false_iff.mpr h5, Bool.false_and] at q
        exact q H2 s12
    · rw [few ws (.inl (by have := of_decide_eq_false (Bool.eq_false_iff.mpr h1); omega))] at q
      exact ⟨_, rfl, iteT (iteT (q H (Same.refl H)))⟩
abbrev sRo : Stmt := top 64
abbrev roScope : Scope := compS (retX (stAt 64 0))
def spRo : Sp := fun vs H Q _ => ∃ (z : Str), vs = [.str z] ∧ z.length ≤ 90000 ∧ ∀ H' l xs, Same H H' → H' l = some (.lst xs) → Rws H' xs (rowsB z) → Q (.ref l) H'
theorem ndRo : (["line"] : List Str).Nodup := by decide +kernel
theorem scRo : FnScope ["text"] ["text"] (defScope sRo) := ⟨rfl, rfl, rfl, by decide +kernel, rfl, by decide +kernel, by decide +kernel⟩
theorem blkRo {f : Addr} {cdv : Value} {A : Around} {outer : List Env} {s : Shared} {H : Hp} {E : XK} :
    Blk (cxOf CX0 P w K mg base ["text"] "rows_of" (defScope sRo) f cdv A outer s H E).nox roScope [] ["line"] [none] := by
  refine ⟨rfl, rfl, by decide +kernel, by decide +kernel, fun p hp => (by cases hp), fun y hy e => ?_, trivial⟩
  have hy' : y ∈ [((PySem.Str.ofString ".0" : Str), NameKind.local), (PySem.Str.ofString "line", .local)] := hy
  simp only [List.mem_cons, List.not_mem_nil, or_false] at hy'
  rcases hy' with rfl | rfl <;> first | rfl | cases e
theorem split_okL {z y : Str} (h : z.length ≤ 90000) : (Txt.split z y).length ≤ 100000 := by
  have := PyProof.Rows.split_le z y
  omega
theorem split_okP {z y : Str} (h : z.length ≤ 90000) : (Builtin.Str.partsBetween z (Builtin.Str.occurrences z y 0 z.length (z.length + 1)) y.length).length ≤ 200000 := by
  have := parts_le z y
  omega
theorem ok_ro {f : Addr} {fd : FuncData} (F : Fun K "rows_of" "rows_of" sRo f fd) (T : Bi mg) : FnOk P w K mg base CX0 1 f fd ["text"] spRo := by
  refine F.ok scRo (fun vs H Q E h => ?_) (fun cdv A outer s H vs Q E hr h => ?_)
  · obtain ⟨z, rfl, _⟩ := h
    rfl
  · obtain ⟨z, rfl, hz, q⟩ := h
    refine ⟨_, pss_one (ps_ret (pe_ifExp (pt_truth (pv 0) (fun _ => rfl)) (pe_lcL blkRo rfl (pe_bm PySem.F.plainAttrs_str PySem.F.slot_str_split PySem.F.type_str_split mt_split (pv 0) (pa_c pe_str pa_nil)) (mono_bm (mono_var 0) (monoA_cons (mono_c _) monoA_nil) mono_rSplit)
      (fun C fp s H => pg_name (i := 0) ndRo rfl (Or.inl rfl) (hf := Or.inr rfl)) (fun C fp s H => pts_nil) (fun C fp s H => pe_bmK (K := K) rfl (pe_bm PySem.F.plainAttrs_str PySem.F.slot_str_split PySem.F.type_str_split mt_split (pv 0) (pa_c pe_str pa_nil)))) (pe_lst pa_nil))), ?_⟩
    refine ⟨_, rfl, _, ⟨leMil (by omega), rfl⟩, ite2 (fun h1 => ?_) (fun h1 => ?_)⟩
    · have hr : rowsB z = (Txt.split z nln).map fun l => Txt.split l sp := if_neg fun e => by rw [e] at h1; exact absurd h1 (by decide)
      rw [hr] at q
      refine ⟨_, rfl, rfl, z, nln, rfl, rfl, (by decide +kernel), by omega, split_okL hz, split_okP hz, fun l H1 s1 hl => ?_⟩
      refine ⟨l, _, rfl, SqL.of hl, (by rw [List.length_map]; exact split_okL hz), fun i ys σ H' => Same H1 H' ∧ Rws H' ys (((Txt.split z nln).take i).map fun l => Txt.split l sp) ∧ ∃ v0, σ = [v0], ⟨Same.refl H1, Rws.nil, none, rfl⟩, fun i ys σ H' hi ⟨e1, e2, _⟩ => ?_, fun i x ys σ H' hx ⟨e1, e2, v0, e3⟩ => ?_, fun ys σ H' ⟨e1, e2, _⟩ l2 H2 s2 hl2 => ?_⟩
      · refine ⟨SqL.of (e1 _ _ hl), ?_⟩
        rw [e2.1, List.length_map, List.length_take]
        omega
      · subst e3
        rw [List.getElem?_map] at hx
        cases hq : (Txt.split z nln)[i]? with
        | none => rw [hq] at hx; cases hx
        | some ln =>
          rw [hq] at hx
          cases hx
          have hln := split_part (List.mem_of_getElem? hq)
          refine ⟨_, rfl, rfl, ln, sp, rfl, rfl, (by decide +kernel), by omega, split_okL (by omega), split_okP (by omega), fun l3 H3 s3 hl3 => ⟨Same.trans e1 s3, ?_, _, rfl⟩⟩
          rw [List.take_succ, hq, List.map_append]
          exact (e2.keep s3).snoc hl3
      · refine q H2 l2 ys (Same.trans s1 (Same.trans e1 s2)) hl2 ?_
        have := e2.keep s2
        rwa [List.length_map, List.take_length] at this
    · have hr : rowsB z = [] := if_pos (by
        by_cases e : z.length = 0
        · exact e
        · exact absurd (by simp [bne]; omega) h1)
      rw [hr] at q
      exact ⟨Nat.zero_le _, fun p hp => q _ p [] (same_new hp) upd_same Rws.nil⟩
end
end My
set_option Elab.async false
set_option linter.all false
set_option maxRecDepth 100000
set_option maxHeartbeats 400000
namespace Tx
open PySem L2
def addN (acc : List Str) (z : Str) : List Str := if z ∈ acc then acc else acc ++ [z]
def addNs (acc ws : List Str) : List Str := ws.foldl addN acc
theorem addNs_app (acc ws vs : List Str) : addNs acc (ws ++ vs) = addNs (addNs acc ws) vs := List.foldl_append
theorem mem_addN {acc : List Str} {z y : Str} : y ∈ addN acc z ↔ y ∈ acc ∨ y = z := by
  unfold addN
  split
  · rename_i h
    exact ⟨.inl, fun e => e.elim id fun e => by rw [e]; exact h⟩
  · rw [List.mem_append, List.mem_singleton]
theorem mem_addNs {y : Str} : ∀ {ws acc : List Str}, y ∈ addNs acc ws ↔ y ∈ acc ∨ y ∈ ws
  | [], acc => by simp [addNs]
  | z :: ws, acc => by
    show y ∈ addNs (addN acc z) ws ↔ _
    rw [mem_addNs, mem_addN, List.mem_cons, or_assoc]
theorem nodup_addN {acc : List Str} {z : Str} (h : acc.Nodup) : (addN acc z).Nodup := by
  unfold addN
  split
  · exact h
  · rename_i hz
    rw [List.nodup_append]
    exact ⟨h, by simp, fun a ha b hb e => hz (by rw [← List.mem_singleton.mp hb, ← e]; exact ha)⟩
theorem nodup_addNs : ∀ {ws acc : List Str}, acc.Nodup → (addNs acc ws).Nodup
  | [], acc, h => h
  | z :: ws, acc, h => nodup_addNs (ws := ws) (nodup_addN h)
theorem len_addNs : ∀ {ws acc : List Str}, (addNs acc ws).length ≤ acc.length + ws.length
  | [], acc => Nat.le_refl _
  | z :: ws, acc => by
    have h : (addN acc z).length ≤ acc.length + 1 := by
      unfold addN
      split
      · omega
      · rw [List.length_append]; exact Nat.le_refl _
    have := len_addNs (ws := ws) (acc := addN acc z)
    show (addNs (addN acc z) ws).length ≤ _
    rw [List.length_cons]
    omega
theorem nodup_le {u : List Str} : ∀ {v : List Str}, v.Nodup → (∀ y ∈ v, y ∈ u) → v.length ≤ u.length := by
  induction u with
  | nil =>
    intro v _ h
    cases v with
    | nil => exact Nat.le_refl _
    | cons a v => exact absurd (h a (by simp)) (by simp)
  | cons x u ih =>
    intro v hv h
    have h1 : (v.filter fun y => decide (y ≠ x)).length ≤ u.length := ih (hv.filter _) fun y hy => by
      obtain ⟨m, n⟩ := List.mem_filter.mp hy
      exact (List.mem_cons.mp (h y m)).resolve_left (of_decide_eq_true n)
    have h2 : v.length ≤ (v.filter fun y => decide (y ≠ x)).length + 1 := by
      clear ih h h1
      induction v with
      | nil => exact Nat.zero_le _
      | cons a v ihv =>
        have hv' := List.nodup_cons.mp hv
        by_cases e : a = x
        · have : v.filter (fun y => decide (y ≠ x)) = v := List.filter_eq_self.mpr fun y hy => decide_eq_true fun e2 => hv'.1 (by rw [e, ← e2]; exact hy)
          rw [List.filter_cons_of_neg (by simp [e]), this]
          exact Nat.le_refl _
        · rw [List.filter_cons_of_pos (by simp [e]), List.length_cons, List.length_cons]
          have := ihv hv'.2
          omega
    rw [List.length_cons]
    omega
def idx : List Str → Str → Nat
  | [], _ => 0
  | y :: u, z => if y = z then 0 else idx u z + 1
def plcF : Nat → List Str → List (Key × V)
  | _, [] => []
  | k, y :: u => (.inr y, .int (k : Int)) :: plcF (k + 1) u
theorem plc_cons {k : Nat} {y : Str} {u : List Str} : plcF k (y :: u) = (.inr y, .int (k : Int)) :: plcF (k + 1) u := rfl
theorem plc_len : ∀ {u : List Str} {k : Nat}, (plcF k u).length = u.length
  | [], _ => rfl
  | y :: u, k => by rw [plc_cons, List.length_cons, List.length_cons, plc_len]
theorem plc_keys : ∀ {u : List Str} {k : Nat}, ((plcF k u).map fun kv => kV kv.1) = u.map V.str
  | [], _ => rfl
  | y :: u, k => by rw [plc_cons, List.map_cons, List.map_cons, plc_keys]; rfl
theorem plc_app : ∀ {u : List Str} {k : Nat} {z : Str}, plcF k (u ++ [z]) = plcF k u ++ [(.inr z, .int ((k + u.length : Nat) : Int))]
  | [], _, _ => rfl
  | y :: u, k, z => by
    show (_, _) :: plcF (k + 1) (u ++ [z]) = (_, _) :: (plcF (k + 1) u ++ _)
    rw [plc_app, List.length_cons, show k + 1 + u.length = k + (u.length + 1) by omega]
theorem plc_out : ∀ {u : List Str} {k : Nat} {z : Str}, z ∉ u → valV (plcF k u) (.inr z) = none
  | [], _, _, _ => rfl
  | y :: u, k, z, h => by
    rw [plc_cons, valV_neg (fun e => h (by rw [Sum.inr.inj e]; exact List.mem_cons_self))]
    exact plc_out fun m => h (List.mem_cons_of_mem _ m)
theorem plc_in : ∀ {u : List Str} {k : Nat} {z : Str}, z ∈ u → valV (plcF k u) (.inr z) = some (.int ((k + idx u z : Nat) : Int))
  | [], _, _, h => by cases h
  | y :: u, k, z, h => by
    by_cases e : y = z
    · rw [plc_cons, valV_pos (by rw [e]), show idx (y :: u) z = 0 from if_pos e]
      rfl
    · rw [plc_cons, valV_neg (fun q => e (Sum.inr.inj q)), plc_in ((List.mem_cons.mp h).resolve_left fun q => e q.symm), show idx (y :: u) z = idx u z + 1 from if_neg e, show k + 1 + idx u z = k + (idx u z + 1) by omega]
theorem plc_put {u : List Str} {z : Str} (h : z ∉ u) : putK (plcF 0 u) (.inr z) (.int (u.length : Int)) = plcF 0 (u ++ [z]) := by
  rw [plc_app, Nat.zero_add]
  unfold putK
  refine if_neg fun q => ?_
  obtain ⟨kv, m, e⟩ := List.any_eq_true.mp q
  have e := of_decide_eq_true e
  have hm : kV kv.1 ∈ (plcF 0 u).map fun kv => kV kv.1 := List.mem_map.mpr ⟨kv, m, rfl⟩
  rw [plc_keys, e] at hm
  obtain ⟨y, my, ey⟩ := List.mem_map.mp hm
  have : y = z := V.str.inj ey
  exact h (by rw [← this]; exact my)
structure Ln where
  a : Str
  b : Str
  h : Option Int
def Ln.ok (l : Ln) : Prop := nameB l.a = true ∧ nameB l.b = true ∧ l.a ≠ l.b ∧ ∀ n, l.h = some n → 0 ≤ n ∧ n < 1000
def Ln.ws (l : Ln) : List Str := match l.h with
  | none => [l.a, l.b]
  | some n => [l.a, l.b, num n]
def lineT (l : Ln) : Str := Str.join sp l.ws
def txt (ls : List Ln) : Str := Str.join nln (ls.map lineT)
theorem hour_ok {n : Int} (h0 : 0 ≤ n) (h1 : n < 1000) : hourB (num n) = true ∧ ∀ c ∈ (num n).cps.toList, c ≠ 32 ∧ c ≠ 10 := by
  have := hour_all ⟨n.toNat, by omega⟩
  rw [show ((n.toNat : Nat) : Int) = n by omega] at this
  obtain ⟨e1, e2⟩ := Bool.and_eq_true_iff.mp this
  refine ⟨e1, fun c hc => ?_⟩
  have := List.all_eq_true.mp e2 c hc
  simpa using this
theorem name_ok {z : Str} (h : nameB z = true) : 1 ≤ z.length ∧ z.length ≤ 8 ∧ ∀ c ∈ z.cps.toList, c ≠ 32 ∧ c ≠ 10 := by
  unfold nameB wordB at h
  obtain ⟨e1, e2⟩ := Bool.and_eq_true_iff.mp h
  obtain ⟨e2, e3⟩ := Bool.and_eq_true_iff.mp e2
  have e1 := of_decide_eq_true e1
  have e2 := of_decide_eq_true e2
  refine ⟨by omega, by omega, fun c hc => ?_⟩
  have := lett_all c (of_decide_eq_true (List.all_eq_true.mp e3 c hc))
  simpa using this
theorem hour_len {n : Int} (h0 : 0 ≤ n) (h1 : n < 1000) : 1 ≤ (num n).length ∧ (num n).length ≤ 3 := by
  have h := (hour_ok h0 h1).1
  unfold hourB wordB at h
  obtain ⟨h, _⟩ := Bool.and_eq_true_iff.mp h
  obtain ⟨e1, e2⟩ := Bool.and_eq_true_iff.mp h
  obtain ⟨e2, e3⟩ := Bool.and_eq_true_iff.mp e2
  have e1 := of_decide_eq_true e1
  have e2 := of_decide_eq_true e2
  omega
theorem Ln.ok.free {l : Ln} (h : l.ok) : ∀ p ∈ l.ws, ∀ c ∈ p.cps.toList, c ≠ 32 ∧ c ≠ 10 := by
  obtain ⟨h1, h2, _, h4⟩ := h
  intro p hp
  unfold Ln.ws at hp
  split at hp
  · simp only [List.mem_cons, List.not_mem_nil, or_false] at hp
    rcases hp with rfl | rfl
    · exact (name_ok h1).2.2
    · exact (name_ok h2).2.2
  · rename_i n e
    simp only [List.mem_cons, List.not_mem_nil, or_false] at hp
    rcases hp with rfl | rfl | rfl
    · exact (name_ok h1).2.2
    · exact (name_ok h2).2.2
    · exact (hour_ok (h4 n e).1 (h4 n e).2).2
theorem ws_ne (l : Ln) : l.ws ≠ [] := by
  unfold Ln.ws
  split <;> simp
theorem sp_eq : sp = ⟨#[32]⟩ := by decide +kernel
theorem nln_eq : nln = ⟨#[10]⟩ := by decide +kernel
theorem join_free {c : Nat} (hc : c ≠ 32) : ∀ (l : List Str), (∀ p ∈ l, ∀ d ∈ p.cps.toList, d ≠ c) → ∀ d ∈ (Str.join sp l).cps.toList, d ≠ c
  | [], _, d, h => by exact absurd h (by simp [Str.join, Str.empty])
  | [a], f, d, h => f a (by simp) d h
  | a :: b :: l, f, d, h => by
    rw [sp_eq, join_cps] at h
    rcases List.mem_append.mp h with h | h
    · exact f a (by simp) d h
    · rcases List.mem_cons.mp h with h | h
      · rw [h]; exact fun e => hc e.symm
      · rw [← sp_eq] at h
        exact join_free hc (b :: l) (fun p m => f p (List.mem_cons_of_mem _ m)) d h
theorem line_split {l : Ln} (h : l.ok) : Txt.split (lineT l) sp = l.ws := by
  unfold lineT
  rw [sp_eq]
  exact split_join 32 _ (ws_ne l) fun p hp m => (h.free p hp 32 m).1 rfl
theorem line_free {l : Ln} (h : l.ok) : 10 ∉ (lineT l).cps.toList := fun m => join_free (c := 10) (by decide) l.ws (fun p hp d hd => (h.free p hp d hd).2) 10 m rfl
theorem line_len {l : Ln} (h : l.ok) : 3 ≤ (lineT l).length ∧ (lineT l).length ≤ 21 := by
  obtain ⟨h1, h2, _, h4⟩ := h
  have n1 := name_ok h1
  have n2 := name_ok h2
  have s1 : sp.length = 1 := by decide +kernel
  unfold lineT Ln.ws
  split
  · rw [join_two, join_one, len_app, len_app]
    omega
  · rename_i n e
    have := hour_len (h4 n e).1 (h4 n e).2
    rw [join_two, join_two, join_one, len_app, len_app, len_app, len_app]
    omega
theorem txt_len : ∀ {ls : List Ln}, (∀ l ∈ ls, l.ok) → (txt ls).length ≤ 22 * ls.length
  | [], _ => by simp [txt, Str.join, Str.empty, Str.length]
  | [l], h => by
    have := (line_len (h l (by simp))).2
    show (lineT l).length ≤ _
    simp only [List.length_cons, List.length_nil]
    omega
  | l :: l' :: ls, h => by
    have h1 := (line_len (h l (by simp))).2
    have h2 := txt_len (ls := l' :: ls) fun x m => h x (List.mem_cons_of_mem _ m)
    have s1 : nln.length = 1 := by decide +kernel
    show (Str.join nln (lineT l :: lineT l' :: ls.map lineT)).length ≤ _
    rw [join_two, len_app, len_app]
    change (Str.join nln (lineT l' :: ls.map lineT)).length ≤ _ at h2
    simp only [List.length_cons] at h2 ⊢
    omega
theorem txt_ne {l : Ln} {ls : List Ln} (h : ∀ x ∈ l :: ls, x.ok) : (txt (l :: ls)).length ≠ 0 := by
  have h1 := (line_len (h l (by simp))).1
  have := part_le nln ((l :: ls).map lineT) (lineT l) (by simp)
  unfold txt
  omega
theorem rows_txt {ls : List Ln} (h : ∀ l ∈ ls, l.ok) : rowsB (txt ls) = ls.map Ln.ws := by
  cases ls with
  | nil => rfl
  | cons l ls =>
    unfold rowsB
    rw [if_neg (txt_ne h)]
    unfold txt
    rw [nln_eq, split_join 10 _ (by simp) (fun p hp => by
      obtain ⟨x, m, e⟩ := List.mem_map.mp hp
      rw [← e]
      exact line_free (h x m)), List.map_map]
    exact List.map_congr_left fun x m => line_split (h x m)
theorem meet_ok {l : Ln} (h : l.ok) : meetB l.ws = true := by
  obtain ⟨h1, h2, h3, h4⟩ := h
  unfold Ln.ws
  split
  · show (nameB l.a && (nameB l.b && !decide (l.a = l.b))) = true
    rw [h1, h2, decide_eq_false h3]
    rfl
  · rename_i n e
    show (nameB l.a && (nameB l.b && (!decide (l.a = l.b) && hourB (num n)))) = true
    rw [h1, h2, decide_eq_false h3, (hour_ok (h4 n e).1 (h4 n e).2).1]
    rfl
def nms (ls : List Ln) : List Str := ls.flatMap fun l => [l.a, l.b]
theorem nms_app (ls : List Ln) (l : Ln) : nms (ls ++ [l]) = nms ls ++ [l.a, l.b] := by unfold nms; rw [List.flatMap_append]; rfl
theorem nms_len : ∀ (ls : List Ln), (nms ls).length = 2 * ls.length
  | [] => rfl
  | l :: ls => by
    show (l.a :: l.b :: nms ls).length = _
    rw [List.length_cons, List.length_cons, nms_len, List.length_cons]
    omega
theorem mem_nms {ls : List Ln} {l : Ln} (h : l ∈ ls) : l.a ∈ nms ls ∧ l.b ∈ nms ls := ⟨List.mem_flatMap.mpr ⟨l, h, by simp⟩, List.mem_flatMap.mpr ⟨l, h, by simp⟩⟩
def uniq (ls : List Ln) : List Str := addNs [] (nms ls)
def tieOf (u : List Str) (l : Ln) : Nat × Nat := (idx u l.a, idx u l.b)
def hV : Option Int → V
  | none => .non
  | some n => .int n
end Tx
set_option Elab.async false
set_option linter.all false
set_option maxRecDepth 100000
set_option maxHeartbeats 400000
namespace My
open PySem L2 Tx
section
variable {P : Program} {w : World} {K : PySem.W.Frag} {mg : Str → Option Value} {base : Heap}
abbrev sPw : Stmt := top 65
abbrev nPw : List Str := ["places", "names", "told", "name"]
def spPw : Sp := fun vs H Q _ => ∃ (d l : Addr) (ns : List Str), vs = [.ref d, .ref l] ∧ H d = some (.dK []) ∧ H l = some (.lst (ns.map V.str)) ∧ ns.length ≤ 1000 ∧ ∀ H' p, Same H H' → H' p = some (.dK (plcF 0 (addNs [] ns))) → Q (.ref p) H'
theorem scPw : FnScope nPw ["places", "names"] (defScope sPw) := ⟨rfl, rfl, rfl, by decide +kernel, rfl, by decide +kernel, by decide +kernel⟩
theorem ok_pw {f : Addr} {fd : FuncData} (F : Fun K "places_with" "places_with" sPw f fd) (T : Bi mg) (hdi : mg "dict" = none) : FnOk P w K mg base CX0 1 f fd ["places", "names"] spPw := by
  refine F.ok scPw (fun vs H Q E h => ?_) (fun cdv A outer s H vs Q E hr h => ?_)
  · obtain ⟨d, l, ns, rfl, _⟩ := h
    rfl
  · obtain ⟨d, l, ns, rfl, hd, hl, hn, q⟩ := h
    refine ⟨_, pss_cons (ps_set (i := 2) scPw.nd rfl (Or.inl rfl) (pe_callTy call_dictK rfl hdi bDict (pa_c (pv 0) pa_nil)))
      (pss_cons (ps_for PassesOwn.never rfl (pi_list (pv 1)) (pg_name (i := 3) scPw.nd rfl (Or.inl rfl))
        (pss_one (ps_expr (pe_dsetd (pv 2) (pv 3) (pe_callB call_lenD rfl T.len bLen (pa_c (pv 2) pa_nil)) ⟨rfl, rfl, rfl, rfl⟩))))
      (pss_one (ps_ret (pv 2)))), ?_⟩
    refine ⟨_, rfl, d, _, rfl, hd, fun p hp => ?_⟩
    have hl1 := same_new (o := .dK []) hp _ _ hl
    refine ⟨_, rfl, l, rfl, ⟨_, SqL.of hl1⟩, for_list (K := K) (a := l) (xs := ns.map V.str) (fun i σ G => (∃ v3, σ = [some (.ref d), some (.ref l), some (.ref p), v3]) ∧ Same H G ∧ G p = some (.dK (plcF 0 (addNs [] (ns.take i)))))
      ⟨⟨_, rfl⟩, same_new hp, upd_same⟩ (fun i σ G _ ⟨_, sG, _⟩ => SqL.of (sG _ _ hl)) (fun i x σ G hx ⟨⟨v3, e⟩, sG, hP⟩ => ?_) (fun σ G ⟨⟨v3, e⟩, sG, hP⟩ => ?_)⟩
    · subst e
      rw [List.getElem?_map] at hx
      cases hq : ns[i]? with
      | none => rw [hq] at hx; cases hx
      | some z =>
        rw [hq] at hx
        cases hx
        have hi := (List.getElem?_eq_some_iff.mp hq).1
        have hlen := len_addNs (ws := ns.take i) (acc := [])
        rw [List.length_take] at hlen
        have e1 : addNs [] (ns.take (i + 1)) = addN (addNs [] (ns.take i)) z := by
          rw [List.take_succ, hq, addNs_app]
          rfl
        refine ⟨_, rfl, p, rfl, .inl ⟨_, .inl hP⟩, _, rfl, _, rfl, p, _, rfl, hP, _, .inr z, hP, rfl, by rw [plc_len]; simp only [List.length_nil] at hlen; omega, fun v hv => ?_, fun hv => ?_⟩
        · refine ⟨⟨_, rfl⟩, sG, ?_⟩
          rw [e1, hP]
          unfold addN
          split
          · rfl
          · rename_i hz; rw [plc_out hz] at hv; cases hv
        · refine ⟨⟨_, rfl⟩, sG.wr hp, ?_⟩
          have hz : z ∉ addNs [] (ns.take i) := fun m => by rw [plc_in m] at hv; cases hv
          rw [upd_same, e1, plc_len, plc_put hz]
          unfold addN
          rw [if_neg hz]
    · subst e
      refine ⟨_, rfl, q G p sG ?_⟩
      rw [hP, List.length_map, List.take_length]
end
end My
set_option Elab.async false
set_option linter.all false
set_option maxRecDepth 100000
set_option maxHeartbeats 400000
namespace My
open PySem L2 Tx
def Prs (H : Hp) (xs : List V) (ts : List (Nat × Nat)) : Prop := xs.length = ts.length ∧ ∀ (i : Nat) t, ts[i]? = some t → ∃ a, xs[i]? = some (.ref a) ∧ H a = some (.tup [.int (t.1 : Int), .int (t.2 : Int)])
theorem Prs.keep {H H' : Hp} {xs : List V} {ws : List (Nat × Nat)} (r : Prs H xs ws) (s : Same H H') : Prs H' xs ws := ⟨r.1, fun i w h => let ⟨a, e, g⟩ := r.2 i w h; ⟨a, e, s _ _ g⟩⟩
theorem Prs.nil {H : Hp} : Prs H [] [] := ⟨rfl, fun i w h => by cases h⟩
theorem Prs.snoc {H : Hp} {xs : List V} {ws : List (Nat × Nat)} {a : Addr} {w : Nat × Nat} (r : Prs H xs ws) (h : H a = some (.tup [.int (w.1 : Int), .int (w.2 : Int)])) : Prs H (xs ++ [.ref a]) (ws ++ [w]) := by
  refine ⟨by rw [List.length_append, List.length_append, r.1]; rfl, fun i w' hi => ?_⟩
  by_cases hl : i < ws.length
  · rw [List.getElem?_append_left hl] at hi
    obtain ⟨b, e, g⟩ := r.2 i w' hi
    exact ⟨b, by rw [List.getElem?_append_left (by rw [r.1]; exact hl)]; exact e, g⟩
  · have h2 := (List.getElem?_eq_some_iff.mp hi).1
    rw [List.length_append, List.length_singleton] at h2
    have e : i = ws.length := by omega
    subst e
    rw [List.getElem?_append_right (Nat.le_refl _), Nat.sub_self] at hi
    cases hi
    exact ⟨a, by rw [← r.1, List.getElem?_append_right (Nat.le_refl _), Nat.sub_self]; rfl, h⟩
structure RdZ (H : Hp) (p pn pe pt ph : Addr) (xs : List V) (u : List Str) (ts : List (Nat × Nat)) (hs : List (Option Int)) : Prop where
  e0 : H p = some (.tup [.ref pn, .ref pe, .ref ph])
  e1 : H pn = some (.tup (u.map V.str))
  e2 : H pe = some (.tup [.int (u.length : Int), .ref pt])
  e3 : H pt = some (.tup xs)
  e4 : Prs H xs ts
  e5 : H ph = some (.tup (hs.map hV))
theorem RdZ.keep {H H' : Hp} {p pn pe pt ph : Addr} {xs : List V} {u : List Str} {ts : List (Nat × Nat)} {hs : List (Option Int)} (h : RdZ H p pn pe pt ph xs u ts hs) (s : Same H H') : RdZ H' p pn pe pt ph xs u ts hs :=
  ⟨s _ _ h.e0, s _ _ h.e1, s _ _ h.e2, s _ _ h.e3, h.e4.keep s, s _ _ h.e5⟩
def lsT (ls : List Ln) : List (Nat × Nat) := ls.map (tieOf (uniq ls))
def lsH (ls : List Ln) : List (Option Int) := ls.map (·.h)
theorem cut2 (l : Ln) : cutV (l.ws.map V.str) none (some 2) = [.str l.a, .str l.b] := by
  unfold Ln.ws
  split <;> rfl
theorem ws0 (l : Ln) : atI (l.ws.map V.str) 0 = some (.str l.a) := by
  unfold Ln.ws
  split <;> exact atI_nat (j := 0) rfl
theorem ws1 (l : Ln) : atI (l.ws.map V.str) 1 = some (.str l.b) := by
  unfold Ln.ws
  split <;> exact atI_nat (j := 1) rfl
theorem take_map {α β : Type} {f : α → β} {l : List α} {i : Nat} {x : α} (h : l[i]? = some x) : (l.take (i + 1)).map f = (l.take i).map f ++ [f x] := by
  rw [List.take_succ, h, List.map_append]
  rfl
theorem Rws.row {H : Hp} {xs : List V} {ls : List Ln} (r : Rws H xs (ls.map Ln.ws)) {i : Nat} {x : V} (h : xs[i]? = some x) : ∃ a l, x = .ref a ∧ ls[i]? = some l ∧ l ∈ ls ∧ H a = some (.lst (l.ws.map V.str)) := by
  have hi := (List.getElem?_eq_some_iff.mp h).1
  rw [r.1, List.length_map] at hi
  have e := List.getElem?_eq_getElem hi
  obtain ⟨a, e2, g⟩ := r.2 i (ls[i].ws) (by rw [List.getElem?_map, e]; rfl)
  rw [h] at e2
  exact ⟨a, _, Option.some.inj e2, e, List.getElem_mem hi, g⟩
section
variable {P : Program} {w : World} {K : PySem.W.Frag} {mg : Str → Option Value} {base : Heap}
abbrev sRd : Stmt := top 66
abbrev nRd : List Str := ["text", "rows", "words", "names", "places", "ties", "tints"]
abbrev rdS1 : Scope := compS (retX (stAt 66 2))
abbrev rdS2 : Scope := compS (retX (stAt 66 8))
abbrev rdS3 : Scope := compS (retX (stAt 66 9))
def spRd : Sp := fun vs H Q _ => ∃ (ls : List Ln), vs = [.str (txt ls)] ∧ (∀ l ∈ ls, l.ok) ∧ ls.length ≤ 200 ∧ (uniq ls).length ≤ 60 ∧ ∀ H' p pn pe pt ph xs, Same H H' → RdZ H' p pn pe pt ph xs (uniq ls) (lsT ls) (lsH ls) → Q (.ref p) H'
theorem ndR1 : (["words"] : List Str).Nodup := by decide +kernel
theorem ndR2 : (["words", "places"] : List Str).Nodup := by decide +kernel
theorem scRd : FnScope nRd ["text"] (defScope sRd) := ⟨rfl, rfl, rfl, by decide +kernel, rfl, by decide +kernel, by decide +kernel⟩
theorem blkR1 {f : Addr} {cdv : Value} {A : Around} {outer : List Env} {s : Shared} {H : Hp} {E : XK} :
    Blk (cxOf CX0 P w K mg base nRd "read" (defScope sRd) f cdv A outer s H E).nox rdS1 [] ["words"] [none] := by
  refine ⟨rfl, rfl, by decide +kernel, by decide +kernel, fun p hp => (by cases hp), fun y hy e => ?_, trivial⟩
  have hy' : y ∈ [((PySem.Str.ofString ".0" : Str), NameKind.local), (PySem.Str.ofString "words", .local), (PySem.Str.ofString "is_meeting", .globalImplicit)] := hy
  simp only [List.mem_cons, List.not_mem_nil, or_false] at hy'
  rcases hy' with rfl | rfl | rfl <;> first | rfl | cases e
theorem blkR2 {f : Addr} {cdv : Value} {A : Around} {outer : List Env} {s : Shared} {H : Hp} {E : XK} :
    Blk (cxOf CX0 P w K mg base nRd "read" (defScope sRd) f cdv A outer s H E).nox rdS2 [("places", s.heap.objs.size + 1)] ["words", "places"] [none, some 4] := by
  refine ⟨rfl, rfl, by decide +kernel, by decide +kernel, fun p hp => ?_, fun y hy e => ?_, ⟨rfl, rfl, rfl⟩, trivial⟩
  · rw [List.mem_singleton.mp hp]
    rfl
  · have hy' : y ∈ [((PySem.Str.ofString ".0" : Str), NameKind.local), (PySem.Str.ofString "words", .local), (PySem.Str.ofString "places", .free)] := hy
    simp only [List.mem_cons, List.not_mem_nil, or_false] at hy'
    rcases hy' with rfl | rfl | rfl <;> first | rfl | cases e
theorem blkR3 {f : Addr} {cdv : Value} {A : Around} {outer : List Env} {s : Shared} {H : Hp} {E : XK} :
    Blk (cxOf CX0 P w K mg base nRd "read" (defScope sRd) f cdv A outer s H E).nox rdS3 [] ["words"] [none] := by
  refine ⟨rfl, rfl, by decide +kernel, by decide +kernel, fun p hp => (by cases hp), fun y hy e => ?_, trivial⟩
  have hy' : y ∈ [((PySem.Str.ofString ".0" : Str), NameKind.local), (PySem.Str.ofString "words", .local), (PySem.Str.ofString "len", .globalImplicit), (PySem.Str.ofString "int", .globalImplicit)] := hy
  simp only [List.mem_cons, List.not_mem_nil, or_false] at hy'
  rcases hy' with rfl | rfl | rfl | rfl <;> first | rfl | cases e
theorem ok_rd {f : Addr} {fd : FuncData} {t1 t2 : Tok} (F : Fun K "read" "read" sRd f fd) (T : Bi mg) (hst : mg "str" = none) (hall : mg "all" = none) (m60 : mg "MOST_POINTS" = some (.int 60 t1)) (m200 : mg "MOST_TIES" = some (.int 200 t2))
    (FR : FnE P w K mg base "rows_of" ["text"] 4 spRo) (FM : FnE P w K mg base "is_meeting" ["words"] 4 (spMg K)) (FP : FnE P w K mg base "places_with" ["places", "names"] 4 spPw) : FnOk P w K mg base CX0 5 f fd ["text"] spRd := by
  refine F.ok scRd (fun vs H Q E h => ?_) (fun cdv A outer s H vs Q E hr h => ?_)
  · obtain ⟨ls, rfl, _⟩ := h
    rfl
  · obtain ⟨ls, rfl, hok, hls, hu60, q⟩ := h
    have hu := hu_of hr
    have hz := txt_len hok
    refine ⟨_, pss_cons (ps_if (pt_not (pt_val (pe_callB call_isinst rfl T.isi bIsi (pa_c (pv 0) (pa_c (pe_bltn (v := .ty "str") rfl hst bStr rfl) pa_nil))))) pss_never pss_nil)
      (pss_cons (ps_set (i := 1) scRd.nd rfl (Or.inl rfl) (pe_fc FR hr (pa_c (pv 0) pa_nil)))
      (pss_cons (ps_if (pt_not (pt_val (pe_callB (call_all rfl) rfl hall bAll (pa_c (pe_lcL blkR1 rfl (pv 1) (mono_var 1) (fun C fp s H => pg_name (i := 0) ndR1 rfl (Or.inl rfl) (hf := Or.inr rfl)) (fun C fp s H => pts_nil) (fun C fp s H => pe_fc FM hr (pa_c (pv 0) pa_nil))) pa_nil)))) pss_never pss_nil)
      (pss_cons (ps_set (i := 3) scRd.nd rfl (Or.inl rfl) (pe_lst pa_nil))
      (pss_cons (ps_for PassesOwn.never rfl (pi_list (pv 1)) (pg_name (i := 2) scRd.nd rfl (Or.inl rfl))
        (pss_one (ps_expr (pe_bm PySem.F.plainAttrs_list PySem.F.slot_list_extend PySem.F.type_list_extend mt_extend (pv 3) (pa_c (pe_slice sl_list (pv 2) po_none (po_some pe_int)) pa_nil)))))
      (pss_cons (ps_set (i := 4) scRd.nd rfl (Or.inr rfl) (pe_fc FP hr (pa_c pe_dnewS (pa_c (pv 3) pa_nil))))
      (pss_cons (ps_if (pt_cmpR op_gt (pe_callB call_lenD rfl T.len bLen (pa_c (pv 4) pa_nil)) (pe_glob (v := .int 60) rfl m60 ⟨_, rfl⟩) (nomark _)) pss_never pss_nil)
      (pss_cons (ps_if (pt_cmpR op_gt (pe_callB call_len_seq rfl T.len bLen (pa_c (pv 1) pa_nil)) (pe_glob (v := .int 200) rfl m200 ⟨_, rfl⟩) (nomark _)) pss_never pss_nil)
      (pss_cons (ps_set (i := 5) scRd.nd rfl (Or.inl rfl) (pe_callTy call_tuple_ofS rfl T.tuple bTuple (pa_c (pe_lcL blkR2 rfl (pv 1) (mono_var 1) (fun C fp s H => pg_name (i := 0) ndR2 rfl (Or.inl rfl) (hf := Or.inr rfl)) (fun C fp s H => pts_nil)
        (fun C fp s H => pe_tupS (pa_c (pe_dget hu (pv 1) (pe_ix (ix_listK (K := K) rfl) (pv 0) pe_int (fun _ _ => rfl)) (fun _ _ => rfl)) (pa_c (pe_dget hu (pv 1) (pe_ix (ix_listK (K := K) rfl) (pv 0) pe_int (fun _ _ => rfl)) (fun _ _ => rfl)) pa_nil)))) pa_nil)))
      (pss_cons (ps_set (i := 6) scRd.nd rfl (Or.inl rfl) (pe_callTy call_tuple_ofS rfl T.tuple bTuple (pa_c (pe_lcL blkR3 rfl (pv 1) (mono_var 1) (fun C fp s H => pg_name (i := 0) ndR1 rfl (Or.inl rfl) (hf := Or.inr rfl)) (fun C fp s H => pts_nil)
        (fun C fp s H => pe_ifExp (pt_cmpR op_eq (pe_callB (call_lenK (K := K) rfl) rfl T.len bLen (pa_c (pv 0) pa_nil)) pe_int (nomark _)) (pe_callTy call_intT rfl T.int bInt (pa_c (pe_ix (ix_listK (K := K) rfl) (pv 0) pe_int (fun _ _ => rfl)) pa_nil)) pe_non)) pa_nil)))
      (pss_one (ps_ret (pe_tupS (pa_c (pe_callTy (call_tupleD hr) rfl T.tuple bTuple (pa_c (pv 4) pa_nil)) (pa_c (pe_tupS (pa_c (pe_callB call_lenD rfl T.len bLen (pa_c (pv 4) pa_nil)) (pa_c (pv 5) pa_nil))) (pa_c (pv 6) pa_nil))))))))))))))), ?_⟩
    refine ⟨_, rfl, _, _, _, _, rfl, .str _, kit K "str" "str" true (by decide +kernel), _, rfl, iteF ?_⟩
    refine ⟨_, rfl, txt ls, rfl, by omega, fun H1 l xs s1 hl rw1 => ?_⟩
    rw [rows_txt hok] at rw1
    have hxl : xs.length = ls.length := by rw [rw1.1, List.length_map]
    refine ⟨_, rfl, l, xs, rfl, SqL.of hl, by omega, fun i ys σ G => Same H1 G ∧ ys = List.replicate i (V.bl true) ∧ ∃ v0, σ = [v0], ⟨Same.refl _, rfl, none, rfl⟩, fun i ys σ G hi ⟨e1, e2, _⟩ => ⟨SqL.of (e1 _ _ hl), by rw [e2, List.length_replicate]; exact Nat.le_refl _⟩, fun i x ys σ G hx ⟨e1, e2, v0, e3⟩ => ?_, fun ys σ G ⟨e1, e2, _⟩ l2 H2 s2 hl2 => ?_⟩
    · subst e2 e3
      obtain ⟨a, ln, rfl, hq, hm, ha⟩ := rw1.row hx
      refine ⟨_, rfl, a, ln.ws, rfl, SqL.of (e1 _ _ ha), e1 _ _ ha, fun z hzm => ?_, fun G2 s2 => ⟨Same.trans e1 s2, ?_, _, rfl⟩⟩
      · have := part_le sp ln.ws z hzm
        have := (line_len (hok ln hm)).2
        unfold lineT at this
        omega
      · rw [meet_ok (hok ln hm), List.replicate_succ']
    · subst e2
      refine ⟨l2, List.replicate xs.length true, rfl, SqL.of (by rw [hl2, List.map_replicate]), _, rfl, ?_⟩
      rw [show (List.replicate xs.length true).all id = true from List.all_eq_true.mpr fun x hx => (List.mem_replicate.mp hx).2]
      refine iteF ?_
      have s02 := Same.trans s1 (Same.trans e1 s2)
      have s12 := Same.trans e1 s2
      refine ⟨Nat.zero_le _, fun N hN => ?_⟩
      have hN1 : H1 N = none := by
        cases z : H1 N with
        | none => rfl
        | some o => rw [s12 _ _ z] at hN; cases hN
      have s1N : Same H1 (upd H2 N (.lst [])) := Same.trans s12 (same_new hN)
      refine ⟨_, rfl, l, rfl, ⟨_, SqL.of (s1N _ _ hl)⟩, for_list (K := K) (a := l) (xs := xs) (fun i σ G => (∃ v2, σ = [some (.str (txt ls)), some (.ref l), v2, some (.ref N), none, none, none]) ∧ Same H1 G ∧ G N = some (.lst ((nms (ls.take i)).map V.str)))
        ⟨⟨_, rfl⟩, s1N, upd_same⟩ (fun i σ G _ ⟨_, sG, _⟩ => SqL.of (sG _ _ hl)) (fun i x σ G hx ⟨⟨v2, e⟩, sG, hGN⟩ => ?_) (fun σ G ⟨⟨v2, e⟩, sG, hGN⟩ => ?_)⟩
      · subst e
        obtain ⟨a, ln, rfl, hq, hm, ha⟩ := rw1.row hx
        refine ⟨_, rfl, .inl ⟨rfl, _, SqL.of hGN⟩, _, rfl, _, rfl, a, _, rfl, SqL.of (sG _ _ ha), fun p2 hp2 => ?_⟩
        rw [cut2]
        have hN2 : N ≠ p2 := fun z => by rw [← z, hGN] at hp2; cases hp2
        refine ⟨N, p2, _, _, rfl, rfl, by rw [upd_ne hN2]; exact hGN, upd_same, ?_, ⟨_, rfl⟩, (Same.trans sG (same_new hp2)).wr hN1, ?_⟩
        · rw [List.length_map, nms_len, List.length_take]
          exact leMil (by simp only [List.length_cons, List.length_nil]; omega)
        · rw [upd_same, List.take_succ, hq]
          show _ = some (HO.lst ((nms (ls.take i ++ [ln])).map V.str))
          rw [nms_app, List.map_append]
          rfl
      · subst e
        rw [hxl, List.take_length] at hGN
        refine fun d G1 sg1 hd => ⟨_, rfl, d, N, nms ls, rfl, hd, sg1 _ _ hGN, by rw [nms_len]; omega, fun G2 p sg2 hp => ?_⟩
        change G2 p = some (.dK (plcF 0 (uniq ls))) at hp
        have s12' : Same H1 G2 := Same.trans sG (Same.trans sg1 sg2)
        refine ⟨_, rfl, p, _, rfl, hp, _, _, rfl, rfl, _, rfl, ite2 (fun h => ?_) (fun _ => ?_)⟩
        · have := of_decide_eq_true h
          rw [plc_len] at this
          exact absurd this (by omega)
        refine ⟨_, rfl, l, _, rfl, .inl (SqL.of (s12' _ _ hl)), _, _, rfl, rfl, _, rfl, ite2 (fun h => ?_) (fun _ => ?_)⟩
        · have := of_decide_eq_true h
          exact absurd this (by omega)
        have dg : ∀ G, Same G2 G → ∀ z ∈ uniq ls, DGet G p (.str z) (some (.int ((idx (uniq ls) z : Nat) : Int))) := fun G sG z m => by
          have := DGet.k (k := .inr z) (sG _ _ hp)
          rwa [plc_in m, Nat.zero_add] at this
        refine ⟨_, rfl, l, xs, rfl, SqL.of (s12' _ _ hl), by omega, fun i ys σ G => Same G2 G ∧ Prs G ys ((ls.take i).map (tieOf (uniq ls))) ∧ ∃ v0, σ = [v0, some (.ref p)], ⟨Same.refl _, Prs.nil, none, rfl⟩, fun i ys σ G hi ⟨e1, e2, _⟩ => ⟨SqL.of (e1 _ _ (s12' _ _ hl)), by rw [e2.1, List.length_map, List.length_take]; omega⟩, fun i x ys σ G hx ⟨e1, e2, v0, e3⟩ => ?_, fun ys σ G ⟨e1, e2, _⟩ l3 G3 s3 hl3 => ?_⟩
        · subst e3
          obtain ⟨a, ln, rfl, hq, hm, ha⟩ := rw1.row hx
          have ha2 := e1 _ _ (s12' _ _ ha)
          have um : ln.a ∈ uniq ls ∧ ln.b ∈ uniq ls := ⟨mem_addNs.mpr (.inr (mem_nms hm).1), mem_addNs.mpr (.inr (mem_nms hm).2)⟩
          refine ⟨_, rfl, _, rfl, a, _, 0, _, rfl, rfl, SqL.of ha2, ws0 ln, p, _, rfl, dg G e1 _ um.1, _, rfl, _, rfl, a, _, 1, _, rfl, rfl, SqL.of ha2, ws1 ln, p, _, rfl, dg G e1 _ um.2, rfl, fun t G4 s4 ht => ⟨Same.trans e1 s4, ?_, _, rfl⟩⟩
          rw [take_map hq]
          exact (e2.keep s4).snoc ht
        rw [hxl, List.take_length] at e2
        refine ⟨l3, _, rfl, .inl hl3, fun pt G4 s4 hpt => ?_⟩
        have s24 : Same G2 G4 := Same.trans e1 (Same.trans s3 s4)
        have prs4 := e2.keep (Same.trans s3 s4)
        clear e1 e2 s3 s4
        refine ⟨_, rfl, l, xs, rfl, SqL.of (s24 _ _ (s12' _ _ hl)), by omega, fun i ys σ G => Same G4 G ∧ ys = (ls.take i).map (fun x => hV x.h) ∧ ∃ v0, σ = [v0], ⟨Same.refl _, rfl, none, rfl⟩, fun i ys σ G hi ⟨e1, e2, _⟩ => ⟨SqL.of (e1 _ _ (s24 _ _ (s12' _ _ hl))), by rw [e2, List.length_map, List.length_take]; omega⟩, fun i x ys σ G hx ⟨e1, e2, v0, e3⟩ => ?_, fun ys σ G ⟨e1, e2, _⟩ l5 G5 s5 hl5 => ?_⟩
        · subst e3
          obtain ⟨a, ln, rfl, hq, hm, ha⟩ := rw1.row hx
          have ha2 := e1 _ _ (s24 _ _ (s12' _ _ ha))
          have e4 := take_map (f := fun x : Ln => hV x.h) hq
          cases hh : ln.h with
          | none =>
            have hw : ln.ws = [ln.a, ln.b] := by unfold Ln.ws; rw [hh]
            rw [hw] at ha2
            refine ⟨_, rfl, a, _, rfl, .inl (SqL.of ha2), rfl, _, rfl, ite2 (fun h => absurd (V.int.inj (of_decide_eq_true h)) (by simp)) (fun _ => ⟨e1, ?_, _, rfl⟩)⟩
            rw [e4, e2, hh]
            rfl
          | some n =>
            have hw : ln.ws = [ln.a, ln.b, num n] := by unfold Ln.ws; rw [hh]
            rw [hw] at ha2
            obtain ⟨n0, n1⟩ := (hok ln hm).2.2.2 n hh
            refine ⟨_, rfl, a, _, rfl, .inl (SqL.of ha2), rfl, _, rfl, ite2 (fun _ => ?_) (fun h => absurd (decide_eq_true rfl) h)⟩
            refine ⟨_, rfl, a, _, 2, _, rfl, rfl, SqL.of ha2, atI_nat (j := 2) rfl, n, rfl, n0, by omega, e1, ?_, _, rfl⟩
            rw [e4, e2, hh]
            rfl
        rw [hxl, List.take_length] at e2
        subst e2
        refine ⟨l5, _, rfl, .inl hl5, fun ph G6 s6 hph => ?_⟩
        have s46 : Same G4 G6 := Same.trans e1 (Same.trans s5 s6)
        have hp6 := s46 _ _ (s24 _ _ hp)
        refine ⟨_, rfl, p, _, rfl, hp6, by rw [plc_len]; omega, fun pn G7 s7 hpn => ?_⟩
        rw [plc_keys] at hpn
        refine ⟨_, rfl, p, _, rfl, s7 _ _ hp6, _, rfl, rfl, fun pe G8 s8 hpe => ⟨_, rfl, rfl, fun r G9 s9 hr9 => ?_⟩⟩
        rw [plc_len] at hpe
        have s69 : Same G6 G9 := Same.trans s7 (Same.trans s8 s9)
        refine q G9 r pn pe pt ph _ (Same.trans s1 (Same.trans s12' (Same.trans s24 (Same.trans s46 s69)))) ⟨hr9, s9 _ _ (s8 _ _ hpn), s9 _ _ hpe, s69 _ _ (s46 _ _ hpt), prs4.keep (Same.trans s46 s69), ?_⟩
        rw [s69 _ _ hph]
        unfold lsH
        rw [List.map_map]
        rfl
end
end My
set_option Elab.async false
set_option linter.all false
set_option maxRecDepth 100000
set_option maxHeartbeats 400000
namespace Tx
open PySem
theorem sum_lines : ∀ {ls : List Ln}, (∀ l ∈ ls, l.ok) → ((ls.map lineT).map (·.length)).sum ≤ 21 * ls.length
  | [], _ => Nat.le_refl _
  | l :: ls, h => by
    have h1 := (line_len (h l (by simp))).2
    have h2 := sum_lines (ls := ls) fun x m => h x (List.mem_cons_of_mem _ m)
    simp only [List.map_cons, List.sum_cons, List.length_cons] at h2 ⊢
    omega
theorem fold_app {c : Nat} : ∀ (k : Nat) (acc : Array Nat), (List.foldl (fun x1 x2 => x1 ++ x2) acc (List.replicate k #[c])).toList = acc.toList ++ List.replicate k c
  | 0, acc => by simp
  | k + 1, acc => by
    rw [List.replicate_succ, List.foldl_cons, fold_app k, List.replicate_succ]
    simp
theorem mul_cps (c : Nat) (n : Int) : (Txt.mul ⟨#[c]⟩ n).cps.toList = List.replicate n.toNat c := by
  unfold Txt.mul
  split
  · rw [show n.toNat = 0 by omega]
    rfl
  · split
    · rename_i h1 h2
      have e : n = 1 := by
        rcases Bool.or_eq_true_iff.mp h2 with h | h
        · exact eq_of_beq h
        · exact absurd h (by show ¬ ((1 : Nat) == 0) = true; decide)
      rw [e]
      rfl
    · rw [fold_app]
      rfl
theorem word_ok {c d : Nat} {s a : Int} (hc : c ∈ letters.cps.toList) (hd : d ∈ letters.cps.toList) (h1 : 1 ≤ s) (h8 : s ≤ 8) (a0 : 0 ≤ a) (a1 : a < s) : nameB (Txt.mul ⟨#[c]⟩ a ++ ⟨#[d]⟩ ++ Txt.mul ⟨#[c]⟩ (s - a - 1)) = true := by
  have e : (Txt.mul ⟨#[c]⟩ a ++ ⟨#[d]⟩ ++ Txt.mul ⟨#[c]⟩ (s - a - 1) : Str).cps.toList = List.replicate a.toNat c ++ [d] ++ List.replicate (s - a - 1).toNat c := by
    rw [app_cps, app_cps, mul_cps, mul_cps]
  have l : (Txt.mul ⟨#[c]⟩ a ++ ⟨#[d]⟩ ++ Txt.mul ⟨#[c]⟩ (s - a - 1) : Str).length = s.toNat := by
    rw [← len_cps, e]
    simp only [List.length_append, List.length_replicate, List.length_singleton]
    omega
  unfold nameB wordB
  rw [l, decide_eq_true (by omega), decide_eq_true (by omega), e, Bool.true_and, Bool.true_and, List.all_eq_true]
  intro x hx
  refine decide_eq_true ?_
  rcases List.mem_append.mp hx with hx | hx
  · rcases List.mem_append.mp hx with hx | hx
    · rw [(List.mem_replicate.mp hx).2]; exact hc
    · rw [List.mem_singleton.mp hx]; exact hd
  · rw [(List.mem_replicate.mp hx).2]; exact hc
theorem mul_len (c : Nat) (n : Int) : (Txt.mul ⟨#[c]⟩ n).length = n.toNat := by rw [← len_cps, mul_cps, List.length_replicate]
end Tx
namespace My
open PySem L2 Tx
section
variable {P : Program} {w : World} {K : PySem.W.Frag} {mg : Str → Option Value} {base : Heap}
abbrev sWo : Stmt := top 72
abbrev nWo : List Str := ["_law_number", "_law_letters", "_law_first", "_law_size", "_law_at"]
def spWo : Sp := fun vs H Q _ => ∃ n : Int, vs = [.int n] ∧ 0 ≤ n ∧ ∀ z : Str, nameB z = true → Q (.str z) H
theorem scWo : FnScope nWo ["_law_number"] (defScope sWo) := ⟨rfl, rfl, rfl, by decide +kernel, rfl, by decide +kernel, by decide +kernel⟩
theorem lett_ix {n : Int} : ∃ c, atI letters.cps.toList (n % 26) = some c ∧ c ∈ letters.cps.toList := by
  have h0 := mod_lo (n := n) (p := 26) (by decide)
  have h1 := mod_hi (n := n) (p := 26) (by decide)
  obtain ⟨e1, e2⟩ := lett_at ⟨(n % 26).toNat, by omega⟩
  refine ⟨_, ?_, e2⟩
  have := atI_nat e1
  rwa [show (((⟨(n % 26).toNat, by omega⟩ : Fin 26).val : Nat) : Int) = n % 26 from by show (((n % 26).toNat : Nat) : Int) = _; omega] at this
theorem ok_wo {f : Addr} {fd : FuncData} (F : Fun K "_law_word" "_law_word" sWo f fd) : FnOk P w K mg base CX0 1 f fd ["_law_number"] spWo := by
  refine F.ok scWo (fun vs H Q E h => ?_) (fun cdv A outer s H vs Q E hr h => ?_)
  · obtain ⟨n, rfl, _⟩ := h
    rfl
  · obtain ⟨n, rfl, hn, q⟩ := h
    refine ⟨_, pss_cons (ps_set (i := 1) scWo.nd rfl (Or.inl rfl) pe_str)
      (pss_cons (ps_set (i := 2) scWo.nd rfl (Or.inl rfl) (pe_ix ix_str (pv 1) (pe_op op_mod (pv 0) pe_int) (fun _ _ => rfl)))
      (pss_cons (ps_set (i := 3) scWo.nd rfl (Or.inl rfl) (pe_op op_add pe_int (pe_op op_mod (pe_op op_fdiv (pv 0) pe_int) pe_int)))
      (pss_cons (ps_set (i := 4) scWo.nd rfl (Or.inl rfl) (pe_op op_mod (pe_op op_fdiv (pv 0) pe_int) (pv 3)))
      (pss_one (ps_ret (pe_op op_add_str (pe_op op_add_str (pe_op op_mulS (pv 2) (pv 4)) (pe_ix ix_str (pv 1) (pe_op op_mod (pe_op op_fdiv (pv 0) pe_int) pe_int) (fun _ _ => rfl))) (pe_op op_mulS (pv 2) (pe_op op_sub (pe_op op_sub (pv 3) (pv 4)) pe_int)))))))), ?_⟩
    obtain ⟨c, hc1, hc2⟩ := lett_ix (n := n)
    obtain ⟨d, hd1, hd2⟩ := lett_ix (n := n / 1664)
    refine ⟨_, rfl, _, rfl, _, _, rfl, rfl, (by show (0 : Int) < 26; decide), letters, _, c, rfl, rfl, leMil (by decide +kernel), hc1, ?_⟩
    refine ⟨_, rfl, _, _, rfl, rfl, ⟨by decide, by decide⟩, _, _, rfl, rfl, (by show (0 : Int) < 8; decide), _, _, rfl, rfl, ?_⟩
    have s0 := mod_lo (n := n / 26) (p := 8) (by decide)
    have s1 := mod_hi (n := n / 26) (p := 8) (by decide)
    dsimp only [gName]
    obtain ⟨sz, hsz⟩ : ∃ s, s = 1 + n / 26 % 8 := ⟨_, rfl⟩
    rw [← hsz]
    refine ⟨_, rfl, _, _, rfl, rfl, ⟨by decide, by decide⟩, _, rfl, _, _, rfl, rfl, (by show 0 < sz; omega), ?_⟩
    have a0 := mod_lo (n := n / 208) (p := sz) (by omega)
    have a1 := mod_hi (n := n / 208) (p := sz) (by omega)
    dsimp only [gName]
    obtain ⟨at', hat⟩ : ∃ s, s = n / 208 % sz := ⟨_, rfl⟩
    rw [← hat] at a0 a1 ⊢
    have lc : (⟨#[c]⟩ : Str).length = 1 := rfl
    have ld : (⟨#[d]⟩ : Str).length = 1 := rfl
    refine ⟨_, rfl, _, rfl, _, at', rfl, rfl, by rw [lc]; decide, by omega, by omega, ?_⟩
    refine ⟨_, rfl, _, rfl, _, _, rfl, rfl, ⟨by decide, by decide⟩, _, _, rfl, rfl, (by show (0 : Int) < 26; decide), letters, _, d, rfl, rfl, leMil (by decide +kernel), hd1, ?_⟩
    refine ⟨_, _, rfl, rfl, leMil (by rw [mul_len, ld]; omega), ?_⟩
    refine ⟨_, rfl, _, rfl, _, rfl, _, _, rfl, rfl, _, _, rfl, rfl, _, _, rfl, rfl, by rw [lc]; decide, by omega, by omega, ?_⟩
    refine ⟨_, _, rfl, rfl, leMil (by rw [len_app, mul_len, mul_len, ld]; omega), q _ (word_ok hc2 hd2 (by omega) (by omega) a0 a1)⟩
end
end My
set_option Elab.async false
set_option linter.all false
set_option maxRecDepth 100000
set_option maxHeartbeats 400000
namespace Tx
open PySem
def allM (z : Str) : Bool := (rowsB z).all meetB
def Sep (c : Nat) : Prop := c = 32 ∨ c = 10
def Sgn (c : Nat) : Prop := c ∈ letters.cps.toList ∨ c ∈ figures.cps.toList
theorem sgn_sep {c : Nat} (h : Sgn c) : ¬ Sep c := by
  have h1 : ∀ c ∈ letters.cps.toList, (c != 32 && c != 10) = true := by decide +kernel
  have h2 : ∀ c ∈ figures.cps.toList, (c != 32 && c != 10) = true := by decide +kernel
  have h3 : (c != 32 && c != 10) = true := h.elim (h1 c) (h2 c)
  intro s
  rcases s with s | s <;> rw [s] at h3 <;> exact absurd h3 (by decide)
theorem word_sgn {sg : Str} {m : Int} {z : Str} (h : wordB sg m z = true) : 1 ≤ z.length ∧ ∀ c ∈ z.cps.toList, c ∈ sg.cps.toList := by
  unfold wordB at h
  obtain ⟨e1, e2⟩ := Bool.and_eq_true_iff.mp h
  obtain ⟨e2, e3⟩ := Bool.and_eq_true_iff.mp e2
  have e1 := of_decide_eq_true e1
  exact ⟨by omega, fun c hc => of_decide_eq_true (List.all_eq_true.mp e3 c hc)⟩
theorem name_sgn {z : Str} (h : nameB z = true) : 1 ≤ z.length ∧ ∀ c ∈ z.cps.toList, Sgn c := let ⟨a, b⟩ := word_sgn h; ⟨a, fun c hc => .inl (b c hc)⟩
theorem hour_sgn {z : Str} (h : hourB z = true) : 1 ≤ z.length ∧ ∀ c ∈ z.cps.toList, Sgn c := by
  unfold hourB at h
  obtain ⟨a, b⟩ := word_sgn (Bool.and_eq_true_iff.mp h).1
  exact ⟨a, fun c hc => .inr (b c hc)⟩
theorem meet_sgn : ∀ {ws : List Str}, meetB ws = true → ∀ p ∈ ws, 1 ≤ p.length ∧ ∀ c ∈ p.cps.toList, Sgn c
  | [], h, _, _ => by cases h
  | [_], h, _, _ => by cases h
  | [a, b], h, p, hp => by
    obtain ⟨h1, h2⟩ := Bool.and_eq_true_iff.mp (show (nameB a && (nameB b && !decide (a = b))) = true from h)
    obtain ⟨h2, _⟩ := Bool.and_eq_true_iff.mp h2
    simp only [List.mem_cons, List.not_mem_nil, or_false] at hp
    rcases hp with rfl | rfl
    · exact name_sgn h1
    · exact name_sgn h2
  | [a, b, c], h, p, hp => by
    obtain ⟨h1, h2⟩ := Bool.and_eq_true_iff.mp (show (nameB a && (nameB b && (!decide (a = b) && hourB c))) = true from h)
    obtain ⟨h2, h3⟩ := Bool.and_eq_true_iff.mp h2
    obtain ⟨_, h3⟩ := Bool.and_eq_true_iff.mp h3
    simp only [List.mem_cons, List.not_mem_nil, or_false] at hp
    rcases hp with rfl | rfl | rfl
    · exact name_sgn h1
    · exact name_sgn h2
    · exact hour_sgn h3
  | _ :: _ :: _ :: _ :: _, h, _, _ => by cases h
theorem mem_join {c s : Nat} : ∀ (l : List Str), c ∈ (Str.join ⟨#[s]⟩ l).cps.toList → c = s ∨ ∃ p ∈ l, c ∈ p.cps.toList
  | [], h => absurd h (by simp [Str.join, Str.empty])
  | [a], h => .inr ⟨a, by simp, h⟩
  | a :: b :: l, h => by
    rw [join_cps] at h
    rcases List.mem_append.mp h with h | h
    · exact .inr ⟨a, by simp, h⟩
    · rcases List.mem_cons.mp h with h | h
      · exact .inl h
      · rcases mem_join (b :: l) h with h | ⟨p, hp, h⟩
        · exact .inl h
        · exact .inr ⟨p, List.mem_cons_of_mem _ hp, h⟩
theorem allM_rows {z : Str} (h : allM z = true) (hz : z.length ≠ 0) : ∀ l ∈ Txt.split z nln, meetB (Txt.split l sp) = true := by
  unfold allM rowsB at h
  rw [if_neg hz, List.all_map] at h
  exact fun l hl => List.all_eq_true.mp h l hl
theorem allM_sgn {z : Str} (h : allM z = true) : ∀ c ∈ z.cps.toList, Sgn c ∨ Sep c := by
  intro c hc
  have hz : z.length ≠ 0 := fun e => by
    have e0 : z.cps.toList = [] := List.eq_nil_of_length_eq_zero (by rw [len_cps]; exact e)
    rw [e0] at hc
    cases hc
  rw [← StrLaws.join_split z nln, nln_eq] at hc
  rcases mem_join _ hc with e | ⟨l, hl, hc⟩
  · exact .inr (.inr e)
  · rw [← nln_eq] at hl
    have hm := allM_rows h hz l hl
    rw [← StrLaws.join_split l sp, sp_eq] at hc
    rcases mem_join _ hc with e | ⟨p, hp, hc⟩
    · exact .inr (.inl e)
    · rw [← sp_eq] at hp
      exact .inl ((meet_sgn hm p hp).2 c hc)
theorem sign_bad {z : Str} {c : Nat} (hc : c ∈ z.cps.toList) (h1 : ¬ Sgn c) (h2 : ¬ Sep c) : allM z = false := by
  cases h : allM z with
  | false => rfl
  | true => exact ((allM_sgn h c hc).elim h1 h2).elim
def Gd (l : List Nat) : Prop := (∀ c, l.head? = some c → ¬ Sep c) ∧ (∀ c, l.getLast? = some c → ¬ Sep c) ∧ ∀ (i : Nat) a b, l[i]? = some a → l[i + 1]? = some b → ¬ (Sep a ∧ Sep b)
theorem gd_word {l : List Nat} (h : ∀ c ∈ l, Sgn c) : Gd l := ⟨fun c hc => sgn_sep (h c (List.mem_of_mem_head? hc)), fun c hc => sgn_sep (h c (List.mem_of_getLast? hc)), fun i a b ha _ s => sgn_sep (h a (List.mem_of_getElem? ha)) s.1⟩
theorem gd_cat {l r : List Nat} {s : Nat} (hl : Gd l) (nl : l ≠ []) (hr : Gd r) (nr : r ≠ []) : Gd (l ++ s :: r) := by
  refine ⟨fun c hc => hl.1 c ?_, fun c hc => hr.2.1 c ?_, fun i a b ha hb => ?_⟩
  · cases l with
    | nil => exact absurd rfl nl
    | cons x l => exact hc
  · cases r with
    | nil => exact absurd rfl nr
    | cons x r =>
      rw [show l ++ s :: x :: r = (l ++ [s]) ++ (x :: r) by simp, List.getLast?_append] at hc
      rw [List.getLast?_eq_some_getLast (show x :: r ≠ [] by simp)] at hc ⊢
      simpa using hc
  · by_cases h1 : i + 1 < l.length
    · rw [List.getElem?_append_left (by omega)] at ha
      rw [List.getElem?_append_left h1] at hb
      exact hl.2.2 i a b ha hb
    · by_cases h2 : i + 1 = l.length
      · rw [List.getElem?_append_left (by omega)] at ha
        intro z
        refine hl.2.1 a ?_ z.1
        rw [List.getLast?_eq_getElem?, show l.length - 1 = i by omega]
        exact ha
      · by_cases h3 : i = l.length
        · subst h3
          rw [List.getElem?_append_right (by omega), show l.length + 1 - l.length = 1 by omega, List.getElem?_cons_succ] at hb
          intro z
          refine hr.1 b ?_ z.2
          rw [List.head?_eq_getElem?]
          exact hb
        · rw [List.getElem?_append_right (by omega), show i - l.length = (i - l.length - 1) + 1 by omega, List.getElem?_cons_succ] at ha
          rw [List.getElem?_append_right (by omega), show i + 1 - l.length = (i - l.length - 1 + 1) + 1 by omega, List.getElem?_cons_succ] at hb
          exact hr.2.2 _ a b ha hb
theorem gd_join {s : Nat} : ∀ (l : List Str), l ≠ [] → (∀ p ∈ l, Gd p.cps.toList ∧ p.cps.toList ≠ []) → Gd (Str.join ⟨#[s]⟩ l).cps.toList ∧ (Str.join ⟨#[s]⟩ l).cps.toList ≠ []
  | [], h, _ => absurd rfl h
  | [a], _, f => f a (by simp)
  | a :: b :: l, _, f => by
    obtain ⟨r1, r2⟩ := gd_join (b :: l) (by simp) fun p hp => f p (List.mem_cons_of_mem _ hp)
    obtain ⟨a1, a2⟩ := f a (by simp)
    rw [join_cps]
    exact ⟨gd_cat a1 a2 r1 r2, by simp⟩
theorem allM_gd {z : Str} (h : allM z = true) (hz : z.length ≠ 0) : Gd z.cps.toList := by
  have key := gd_join (s := 10) (Txt.split z nln) (split_ne _ _) fun l hl => by
    have hm := allM_rows h hz l hl
    have k2 := gd_join (s := 32) (Txt.split l sp) (split_ne _ _) fun p hp => by
      obtain ⟨p1, p2⟩ := meet_sgn hm p hp
      refine ⟨gd_word p2, fun e => ?_⟩
      rw [← len_cps, e] at p1
      exact absurd p1 (by decide)
    rw [← sp_eq, StrLaws.join_split] at k2
    exact k2
  rw [← nln_eq, StrLaws.join_split] at key
  exact key.1
theorem gap_bad {z : Str} {pre post : List Nat} {s : Nat} (e : z.cps.toList = pre ++ s :: post) (hs : Sep s) (h : pre = [] ∨ post = [] ∨ ∃ c r, post = c :: r ∧ Sep c) : allM z = false := by
  cases hm : allM z with
  | false => rfl
  | true =>
    have hz : z.length ≠ 0 := by rw [← len_cps, e]; simp
    have g := allM_gd hm hz
    rw [e] at g
    exfalso
    rcases h with h | h | ⟨c, r, h, hc⟩
    · subst h
      exact g.1 s rfl hs
    · subst h
      exact g.2.1 s (by simp) hs
    · subst h
      refine g.2.2 pre.length s c ?_ ?_ ⟨hs, hc⟩
      · rw [List.getElem?_append_right (Nat.le_refl _), Nat.sub_self]
        rfl
      · rw [List.getElem?_append_right (by omega), show pre.length + 1 - pre.length = 1 by omega]
        rfl
theorem line_bad {L : List Str} {b : Str} (hf : ∀ p ∈ L, 10 ∉ p.cps.toList) (hb : b ∈ L) (hm : meetB (Txt.split b sp) = false) (hz : (Str.join nln L).length ≠ 0) : allM (Str.join nln L) = false := by
  unfold allM rowsB
  rw [if_neg hz]
  rw [nln_eq, split_join 10 L (fun e => by rw [e] at hb; cases hb) hf, List.all_map]
  refine Bool.eq_false_iff.mpr fun h => ?_
  have := List.all_eq_true.mp h b hb
  rw [show (meetB ∘ fun l => Txt.split l sp) b = meetB (Txt.split b sp) from rfl, hm] at this
  cases this
end Tx
set_option Elab.async false
set_option linter.all false
set_option maxRecDepth 100000
set_option maxHeartbeats 400000
namespace Tx
open PySem
def ringW (k : Nat) : Str := (⟨#[97 + k % 26]⟩ : Str) ++ ⟨#[97 + k / 26]⟩ ++ ⟨#[120]⟩
theorem ring_ok : ∀ k : Fin 62, nameB (ringW k.val) = true := by decide +kernel
theorem ring_inj {i j : Nat} (hi : i < 62) (hj : j < 62) (e : ringW i = ringW j) : i = j := by
  have e1 := congrArg (fun z : Str => z.cps.toList) e
  have e2 : [97 + i % 26, 97 + i / 26, 120] = [97 + j % 26, 97 + j / 26, 120] := e1
  simp only [List.cons.injEq] at e2
  omega
def ringL (m k : Nat) : Ln := ⟨ringW (k % m), ringW ((k + 1) % m), none⟩
def ringLs (m n : Nat) : List Ln := (List.range n).map (ringL m)
theorem ringL_ok {m k : Nat} (h2 : 2 ≤ m) (hm : m ≤ 62) : (ringL m k).ok := by
  have a := Nat.mod_lt k (show 0 < m by omega)
  have b := Nat.mod_lt (k + 1) (show 0 < m by omega)
  refine ⟨ring_ok ⟨k % m, by omega⟩, ring_ok ⟨(k + 1) % m, by omega⟩, fun e => ?_, fun n z => by cases z⟩
  have e2 := ring_inj (by omega) (by omega) e
  rw [Nat.add_mod] at e2
  have e3 : 1 % m = 1 := Nat.mod_eq_of_lt (by omega)
  rw [e3] at e2
  by_cases h : k % m + 1 < m
  · rw [Nat.mod_eq_of_lt h] at e2
    omega
  · have : k % m + 1 = m := by omega
    rw [this, Nat.mod_self] at e2
    omega
theorem ringLs_ok {m n : Nat} (h2 : 2 ≤ m) (hm : m ≤ 62) : ∀ l ∈ ringLs m n, l.ok := fun l hl => by
  obtain ⟨k, _, rfl⟩ := List.mem_map.mp hl
  exact ringL_ok h2 hm
theorem ring_uniq {m n : Nat} (h2 : 2 ≤ m) (hm : m ≤ 62) (hn : m ≤ n) : (uniq (ringLs m n)).length = m := by
  have nd : ((List.range m).map ringW).Nodup := by
    rw [List.nodup_iff_pairwise_ne, List.pairwise_map]
    refine List.Pairwise.imp_of_mem ?_ List.nodup_range
    intro a b ha hb hab e
    exact hab (ring_inj (by have := List.mem_range.mp ha; omega) (by have := List.mem_range.mp hb; omega) e)
  refine Nat.le_antisymm ?_ ?_
  · have := nodup_le (u := (List.range m).map ringW) (v := uniq (ringLs m n)) (nodup_addNs List.nodup_nil) fun y hy => by
      rcases mem_addNs.mp hy with hy | hy
      · cases hy
      · obtain ⟨l, hl, hy⟩ := List.mem_flatMap.mp hy
        obtain ⟨k, _, rfl⟩ := List.mem_map.mp hl
        simp only [List.mem_cons, List.not_mem_nil, or_false] at hy
        rcases hy with rfl | rfl
        · exact List.mem_map.mpr ⟨k % m, List.mem_range.mpr (Nat.mod_lt _ (by omega)), rfl⟩
        · exact List.mem_map.mpr ⟨(k + 1) % m, List.mem_range.mpr (Nat.mod_lt _ (by omega)), rfl⟩
    rwa [List.length_map, List.length_range] at this
  · have := nodup_le (u := uniq (ringLs m n)) nd fun y hy => by
      obtain ⟨k, hk, rfl⟩ := List.mem_map.mp hy
      have hk := List.mem_range.mp hk
      refine mem_addNs.mpr (.inr (List.mem_flatMap.mpr ⟨ringL m k, List.mem_map.mpr ⟨k, List.mem_range.mpr (by omega), rfl⟩, ?_⟩))
      have e : (ringL m k).a = ringW k := by show ringW (k % m) = _; rw [Nat.mod_eq_of_lt hk]
      rw [e]
      simp
    rwa [List.length_map, List.length_range] at this
theorem ring_len (m n : Nat) : (ringLs m n).length = n := by unfold ringLs; rw [List.length_map, List.length_range]
theorem join_snoc (c : Nat) (b : Str) : ∀ (l : List Str), l ≠ [] → Str.join ⟨#[c]⟩ (l ++ [b]) = Str.join ⟨#[c]⟩ l ++ ⟨#[c]⟩ ++ b
  | [], h => absurd rfl h
  | [a], _ => rfl
  | a :: a' :: l, _ => by
    show a ++ ⟨#[c]⟩ ++ Str.join ⟨#[c]⟩ (a' :: l ++ [b]) = a ++ ⟨#[c]⟩ ++ Str.join ⟨#[c]⟩ (a' :: l) ++ ⟨#[c]⟩ ++ b
    rw [join_snoc c b (a' :: l) (by simp)]
    exact sext (by simp only [app_cps, List.append_assoc])
end Tx
set_option Elab.async false
set_option linter.all false
set_option maxRecDepth 100000
set_option maxHeartbeats 400000
namespace L2
open PySem
theorem PS.nox {X : Cx} {st : Stmt} {t : TS} (h : PS X.nox st t) : PS X st t := fun pins s σ H D I hw =>
  wpAny_mono (h pins s σ H D (I.wish _) hw) (fun _ _ q => q.unwish) fun _ _ z => False.elim z
end L2
namespace My
open PySem L2 Tx
theorem row_len {z : Str} (hz : z.length ≤ 90000) : ∀ ws ∈ rowsB z, ∀ p ∈ ws, p.length ≤ 100000 := by
  intro ws hws p hp
  unfold rowsB at hws
  split at hws
  · cases hws
  · obtain ⟨l, hl, rfl⟩ := List.mem_map.mp hws
    have := split_part hl
    have := split_part hp
    omega
theorem Rws.at {H : Hp} {xs : List V} {ws : List (List Str)} (r : Rws H xs ws) {i : Nat} {x : V} (h : xs[i]? = some x) : ∃ a w, x = .ref a ∧ ws[i]? = some w ∧ w ∈ ws ∧ H a = some (.lst (w.map V.str)) := by
  have hi := (List.getElem?_eq_some_iff.mp h).1
  rw [r.1] at hi
  have e := List.getElem?_eq_getElem hi
  obtain ⟨a, e2, g⟩ := r.2 i ws[i] e
  rw [h] at e2
  exact ⟨a, _, Option.some.inj e2, e, List.getElem_mem hi, g⟩
section
variable {P : Program} {w : World} {K : PySem.W.Frag} {mg : Str → Option Value} {base : Heap}
theorem blkX1 {f : Addr} {cdv : Value} {A : Around} {outer : List Env} {s : Shared} {H : Hp} {E : XK} :
    Blk (cxOf (RX.CXe P w) P w K mg base nRd "read" (defScope sRd) f cdv A outer s H E).nox rdS1 [] ["words"] [none] := by
  refine ⟨rfl, rfl, by decide +kernel, by decide +kernel, fun p hp => (by cases hp), fun y hy e => ?_, trivial⟩
  have hy' : y ∈ [((PySem.Str.ofString ".0" : Str), NameKind.local), (PySem.Str.ofString "words", .local), (PySem.Str.ofString "is_meeting", .globalImplicit)] := hy
  simp only [List.mem_cons, List.not_mem_nil, or_false] at hy'
  rcases hy' with rfl | rfl | rfl <;> first | rfl | cases e
def spRdN (K : PySem.W.Frag) (C : Addr) : Sp := fun vs H _ E => ∃ v : V, vs = [v] ∧ ((∃ t, TyOf K H v (.type t) ∧ PySem.W.kitOne K (.type t) (.type "str") = some false) ∨ ∃ z : Str, v = .str z ∧ z.length ≤ 90000 ∧ allM z = false) ∧ ∀ H', Same H H' → E (.ref C) none H'
theorem ok_rdN {f C D : Addr} {fd : FuncData} (F : Fun K "read" "read" sRd f fd) (T : Bi mg) (hst : mg "str" = none) (hall : mg "all" = none) (FR : FnE P w K mg base "rows_of" ["text"] 4 spRo) (FM : FnE P w K mg base "is_meeting" ["words"] 4 (spMg K))
    (c : RX.xcIn K C D = true) (cn : RX.xnIn K C = true) (kp : PySem.W.keepIn K (.ref C) = true) (hm : mg "NoText" = some (.ref C)) : FnOk P w K mg base (RX.CXe P w) 5 f fd ["text"] (spRdN K C) := by
  refine RX.funX_ok F scRd (fun vs H Q E h => ?_) (fun cdv A outer s H vs Q E hr h => ?_)
  · obtain ⟨v, rfl, _⟩ := h
    rfl
  · obtain ⟨v, rfl, hv, q⟩ := h
    rcases hv with ⟨t, ty, kt⟩ | ⟨z, rfl, hz, hb⟩
    · refine ⟨_, pss_cons (ps_if (PT.nox (pt_not (pt_val (pe_callB call_isinst rfl T.isi bIsi (pa_c (pv 0) (pa_c (pe_bltn (v := .ty "str") rfl hst bStr rfl) pa_nil)))))) (pss_one (RX.ps_raise0 c cn kp hr rfl hm rfl rfl rfl (fun _ _ h => h))) pss_nil) pss_never, ?_⟩
      exact ⟨_, rfl, _, _, _, _, rfl, ty, kt, _, rfl, iteT (q H (Same.refl _))⟩
    · refine ⟨_, pss_cons (ps_if (PT.nox (pt_not (pt_val (pe_callB call_isinst rfl T.isi bIsi (pa_c (pv 0) (pa_c (pe_bltn (v := .ty "str") rfl hst bStr rfl) pa_nil)))))) pss_never pss_nil)
        (pss_cons (PS.nox (ps_set (i := 1) scRd.nd rfl (Or.inl rfl) (pe_fc FR hr (pa_c (pv 0) pa_nil))))
        (pss_cons (ps_if (PT.nox (pt_not (pt_val (pe_callB (call_all rfl) rfl hall bAll (pa_c (pe_lcL blkX1 rfl (pv 1) (mono_var 1) (fun C fp s H => pg_name (i := 0) ndR1 rfl (Or.inl rfl) (hf := Or.inr rfl)) (fun C fp s H => pts_nil) (fun C fp s H => pe_fc FM hr (pa_c (pv 0) pa_nil))) pa_nil))))) (pss_one (RX.ps_raise0 c cn kp hr rfl hm rfl rfl rfl (fun _ _ h => h))) pss_nil) pss_never)), ?_⟩
      refine ⟨_, rfl, _, _, _, _, rfl, .str _, kit K "str" "str" true (by decide +kernel), _, rfl, iteF ?_⟩
      refine ⟨_, rfl, z, rfl, hz, fun H1 l xs s1 hl rw1 => ?_⟩
      have hxl := rw1.1
      have hrl : (rowsB z).length ≤ 100000 := by
        unfold rowsB
        split
        · exact Nat.zero_le _
        · rw [List.length_map]; exact split_okL hz
      refine ⟨_, rfl, l, xs, rfl, SqL.of hl, by omega, fun i ys σ G => Same H1 G ∧ ys = ((rowsB z).take i).map (fun w => V.bl (meetB w)) ∧ ∃ v0, σ = [v0], ⟨Same.refl _, rfl, none, rfl⟩, fun i ys σ G hi ⟨e1, e2, _⟩ => ⟨SqL.of (e1 _ _ hl), by rw [e2, List.length_map, List.length_take]; omega⟩, fun i x ys σ G hx ⟨e1, e2, v0, e3⟩ => ?_, fun ys σ G ⟨e1, e2, _⟩ l2 H2 s2 hl2 => ?_⟩
      · subst e3
        obtain ⟨a, ws, rfl, hq, hm, ha⟩ := rw1.at hx
        refine ⟨_, rfl, a, ws, rfl, SqL.of (e1 _ _ ha), e1 _ _ ha, row_len hz ws hm, fun G2 s2 => ⟨Same.trans e1 s2, ?_, _, rfl⟩⟩
        rw [take_map (f := fun w => V.bl (meetB w)) hq, e2]
      · rw [hxl, List.take_length] at e2
        refine ⟨l2, (rowsB z).map meetB, rfl, SqL.of (by rw [hl2, e2, List.map_map]; rfl), _, rfl, ?_⟩
        rw [show ((rowsB z).map meetB).all id = false from by rw [List.all_map]; exact hb]
        exact iteT (q H2 (Same.trans s1 (Same.trans e1 s2)))
def spRdG (C : Addr) : Sp := fun vs H _ E => ∃ (ls : List Ln) (m : Int), vs = [.str (txt ls)] ∧ (∀ l ∈ ls, l.ok) ∧ ls.length ≤ 300 ∧ ((60 < (uniq ls).length ∧ m = 60) ∨ ((uniq ls).length ≤ 60 ∧ 200 < ls.length ∧ m = 200)) ∧ ∀ H' dx, Same H H' → H' dx = none → E (.ref C) (some dx) (upd H' dx (.xd [("most", .int m)]))
theorem ok_rdG {f C D fI : Addr} {fd fdI : FuncData} {t1 t2 : Tok} (F : Fun K "read" "read" sRd f fd) (T : Bi mg) (hst : mg "str" = none) (hall : mg "all" = none) (m60 : mg "MOST_POINTS" = some (.int 60 t1)) (m200 : mg "MOST_TIES" = some (.int 200 t2))
    (FR : FnE P w K mg base "rows_of" ["text"] 4 spRo) (FM : FnE P w K mg base "is_meeting" ["words"] 4 (spMg K)) (FP : FnE P w K mg base "places_with" ["places", "names"] 4 spPw)
    (c : RX.XCl K C D) (hi : PySem.W.findIn K (.ref C) "__init__" = some (some (.ref fI))) (hfn : PySem.W.isFn K (.ref fI) = true) (FI : FnOk P w K mg base CX0 3 fI fdI ["self", "most"] (RX.spInit C "most")) (hb : L2.Binds K fdI ["self", "most"] []) (hm : mg "TooGreat" = some (.ref C)) :
    FnOk P w K mg base (RX.CXe P w) 5 f fd ["text"] (spRdG C) := by
  refine RX.funX_ok F scRd (fun vs H Q E h => ?_) (fun cdv A outer s H vs Q E hr h => ?_)
  · obtain ⟨ls, m, rfl, _⟩ := h
    rfl
  · obtain ⟨ls, m, rfl, hok, hls, hgr, q⟩ := h
    have hz := txt_len hok
    refine ⟨_, pss_cons (ps_if (PT.nox (pt_not (pt_val (pe_callB call_isinst rfl T.isi bIsi (pa_c (pv 0) (pa_c (pe_bltn (v := .ty "str") rfl hst bStr rfl) pa_nil)))))) pss_never pss_nil)
      (pss_cons (PS.nox (ps_set (i := 1) scRd.nd rfl (Or.inl rfl) (pe_fc FR hr (pa_c (pv 0) pa_nil))))
      (pss_cons (ps_if (PT.nox (pt_not (pt_val (pe_callB (call_all rfl) rfl hall bAll (pa_c (pe_lcL blkX1 rfl (pv 1) (mono_var 1) (fun C fp s H => pg_name (i := 0) ndR1 rfl (Or.inl rfl) (hf := Or.inr rfl)) (fun C fp s H => pts_nil) (fun C fp s H => pe_fc FM hr (pa_c (pv 0) pa_nil))) pa_nil))))) pss_never pss_nil)
      (pss_cons (PS.nox (ps_set (i := 3) scRd.nd rfl (Or.inl rfl) (pe_lst pa_nil)))
      (pss_cons (PS.nox (ps_for PassesOwn.never rfl (pi_list (pv 1)) (pg_name (i := 2) scRd.nd rfl (Or.inl rfl))
        (pss_one (ps_expr (pe_bm PySem.F.plainAttrs_list PySem.F.slot_list_extend PySem.F.type_list_extend mt_extend (pv 3) (pa_c (pe_slice sl_list (pv 2) po_none (po_some pe_int)) pa_nil))))))
      (pss_cons (PS.nox (ps_set (i := 4) scRd.nd rfl (Or.inr rfl) (pe_fc FP hr (pa_c pe_dnewS (pa_c (pv 3) pa_nil)))))
      (pss_cons (ps_if (PT.nox (pt_cmpR op_gt (pe_callB call_lenD rfl T.len bLen (pa_c (pv 4) pa_nil)) (pe_glob (v := .int 60) rfl m60 ⟨_, rfl⟩) (nomark _))) (pss_one (RX.ps_raiseF c hi hfn FI hr hb rfl hm (pa_c (pe_glob (v := .int 60) rfl m60 ⟨_, rfl⟩) pa_nil) rfl rfl rfl (fun _ _ h => h))) pss_nil)
      (pss_cons (ps_if (PT.nox (pt_cmpR op_gt (pe_callB call_len_seq rfl T.len bLen (pa_c (pv 1) pa_nil)) (pe_glob (v := .int 200) rfl m200 ⟨_, rfl⟩) (nomark _))) (pss_one (RX.ps_raiseF c hi hfn FI hr hb rfl hm (pa_c (pe_glob (v := .int 200) rfl m200 ⟨_, rfl⟩) pa_nil) rfl rfl rfl (fun _ _ h => h))) pss_nil)
      pss_never))))))), ?_⟩
    refine ⟨_, rfl, _, _, _, _, rfl, .str _, kit K "str" "str" true (by decide +kernel), _, rfl, iteF ?_⟩
    refine ⟨_, rfl, txt ls, rfl, by omega, fun H1 l xs s1 hl rw1 => ?_⟩
    rw [rows_txt hok] at rw1
    have hxl : xs.length = ls.length := by rw [rw1.1, List.length_map]
    refine ⟨_, rfl, l, xs, rfl, SqL.of hl, by omega, fun i ys σ G => Same H1 G ∧ ys = List.replicate i (V.bl true) ∧ ∃ v0, σ = [v0], ⟨Same.refl _, rfl, none, rfl⟩, fun i ys σ G hi ⟨e1, e2, _⟩ => ⟨SqL.of (e1 _ _ hl), by rw [e2, List.length_replicate]; exact Nat.le_refl _⟩, fun i x ys σ G hx ⟨e1, e2, v0, e3⟩ => ?_, fun ys σ G ⟨e1, e2, _⟩ l2 H2 s2 hl2 => ?_⟩
    · subst e2 e3
      obtain ⟨a, ln, rfl, hq, hm, ha⟩ := rw1.row hx
      refine ⟨_, rfl, a, ln.ws, rfl, SqL.of (e1 _ _ ha), e1 _ _ ha, fun z hzm => ?_, fun G2 s2 => ⟨Same.trans e1 s2, ?_, _, rfl⟩⟩
      · have := part_le sp ln.ws z hzm
        have := (line_len (hok ln hm)).2
        unfold lineT at this
        omega
      · rw [meet_ok (hok ln hm), List.replicate_succ']
    · subst e2
      refine ⟨l2, List.replicate xs.length true, rfl, SqL.of (by rw [hl2, List.map_replicate]), _, rfl, ?_⟩
      rw [show (List.replicate xs.length true).all id = true from List.all_eq_true.mpr fun x hx => (List.mem_replicate.mp hx).2]
      refine iteF ?_
      have s12 := Same.trans e1 s2
      refine ⟨Nat.zero_le _, fun N hN => ?_⟩
      have hN1 : H1 N = none := by
        cases z : H1 N with
        | none => rfl
        | some o => rw [s12 _ _ z] at hN; cases hN
      have s1N : Same H1 (upd H2 N (.lst [])) := Same.trans s12 (same_new hN)
      refine ⟨_, rfl, l, rfl, ⟨_, SqL.of (s1N _ _ hl)⟩, for_list (K := K) (a := l) (xs := xs) (fun i σ G => (∃ v2, σ = [some (.str (txt ls)), some (.ref l), v2, some (.ref N), none, none, none]) ∧ Same H1 G ∧ G N = some (.lst ((nms (ls.take i)).map V.str)))
        ⟨⟨_, rfl⟩, s1N, upd_same⟩ (fun i σ G _ ⟨_, sG, _⟩ => SqL.of (sG _ _ hl)) (fun i x σ G hx ⟨⟨v2, e⟩, sG, hGN⟩ => ?_) (fun σ G ⟨⟨v2, e⟩, sG, hGN⟩ => ?_)⟩
      · subst e
        obtain ⟨a, ln, rfl, hq, hm, ha⟩ := rw1.row hx
        refine ⟨_, rfl, .inl ⟨rfl, _, SqL.of hGN⟩, _, rfl, _, rfl, a, _, rfl, SqL.of (sG _ _ ha), fun p2 hp2 => ?_⟩
        rw [cut2]
        have hN2 : N ≠ p2 := fun z => by rw [← z, hGN] at hp2; cases hp2
        refine ⟨N, p2, _, _, rfl, rfl, by rw [upd_ne hN2]; exact hGN, upd_same, ?_, ⟨_, rfl⟩, (Same.trans sG (same_new hp2)).wr hN1, ?_⟩
        · rw [List.length_map, nms_len, List.length_take]
          exact leMil (by simp only [List.length_cons, List.length_nil]; omega)
        · rw [upd_same, List.take_succ, hq]
          show _ = some (HO.lst ((nms (ls.take i ++ [ln])).map V.str))
          rw [nms_app, List.map_append]
          rfl
      · subst e
        rw [hxl, List.take_length] at hGN
        refine fun d G1 sg1 hd => ⟨_, rfl, d, N, nms ls, rfl, hd, sg1 _ _ hGN, by rw [nms_len]; omega, fun G2 p sg2 hp => ?_⟩
        change G2 p = some (.dK (plcF 0 (uniq ls))) at hp
        have s12' : Same H1 G2 := Same.trans sG (Same.trans sg1 sg2)
        have s02 := Same.trans s1 s12'
        refine ⟨_, rfl, p, _, rfl, hp, _, _, rfl, rfl, _, rfl, ?_⟩
        rw [plc_len]
        rcases hgr with ⟨g1, rfl⟩ | ⟨g1, g2, rfl⟩
        · refine ite2 (fun _ => ?_) (fun z => absurd (decide_eq_true (by omega)) z)
          exact ⟨_, rfl, fun dx hdx => q G2 dx s02 hdx⟩
        · refine ite2 (fun z => absurd (of_decide_eq_true z) (by omega)) (fun _ => ?_)
          refine ⟨_, rfl, l, _, rfl, .inl (SqL.of (s12' _ _ hl)), _, _, rfl, rfl, _, rfl, ?_⟩
          refine ite2 (fun _ => ?_) (fun z => absurd (decide_eq_true (by omega)) z)
          exact ⟨_, rfl, fun dx hdx => q G2 dx s02 hdx⟩
end
end My
set_option Elab.async false
set_option linter.all false
set_option maxRecDepth 100000
set_option maxHeartbeats 1000000
namespace L2
open PySem PyProof.Rows
theorem pe_nev {X : Cx} {e : Expr} : PE X e (fun _ _ _ => False) := fun _ _ _ _ _ _ h => h.elim
structure FunD (K : PySem.W.Frag) (x qual : Str) (st : Stmt) (f : Addr) (fd : FuncData) : Prop where
  ex : ∃ (oc : Value) (od : Option Addr) (dV kV doc pm : Value) (an : Option Addr) (cdv ct : Value) (osl : Array (Option Value)),
    fd = PySem.W.fnOf x qual (defArgs st) (defBody st) (defScope st) dV kV doc pm an cdv ct ∧ K.lookup f = some ⟨oc, od, .func fd, osl⟩ ∧ PySem.W.codeIn K cdv qual = true
section
variable {P : Program} {w : World} {K : PySem.W.Frag} {mg : Str → Option Value} {base : Heap} {k : Nat} {f : Addr} {fd : FuncData} {ps : List Str} {sp sp' : Sp}
theorem FunD.okX {x qual : Str} {st : Stmt} {N : List Str} (F : FunD K x qual st f fd) (S : FnScope N ps (defScope st)) (len : ∀ vs H Q E, sp vs H Q E → vs.length = ps.length)
    (hbody : ∀ (cdv : Value) (A : Around) (outer : List Env) (s : Shared) (H : Hp) (vs : List V) (Q : VK) (E : XK), Room k (A.deeper (envOfC qual (defScope st) s.heap.objs.size f cdv)) → sp vs H Q E →
      ∃ t, PSs (cxOf (RX.CXe P w) P w K mg base N qual (defScope st) f cdv A outer s H E) (defBody st) t ∧ t { nx := fun _ H' => Q .non H', rt := Q } (start N vs) H) : FnOk P w K mg base (RX.CXe P w) (k + 1) f fd ps sp := by
  obtain ⟨oc, od, dV, kV, doc, pm, an, cdv, ct, osl, rfl, lk, hcd⟩ := F.ex
  exact fn_of lk hcd S len fun A outer s H vs Q E hr hsp => hbody cdv A outer s H vs Q E hr hsp
end
end L2
namespace My
open PySem L2 Tx
def NoTx (H : Hp) (v : V) : Prop := v = .non ∨ (∃ i, v = .int i) ∨ (∃ b, v = .bl b) ∨ (∃ a xs, v = .ref a ∧ H a = some (.tup xs)) ∨ (∃ a xs, v = .ref a ∧ H a = some (.lst xs)) ∨ (∃ a kvs, v = .ref a ∧ H a = some (.dK kvs)) ∨ ∃ z : Str, v = .str z ∧ z.length ≤ 90000 ∧ allM z = false
theorem NoTx.keep {H H' : Hp} {v : V} (h : NoTx H v) (s : Same H H') : NoTx H' v := by
  rcases h with h | h | h | ⟨a, xs, h, g⟩ | ⟨a, xs, h, g⟩ | ⟨a, xs, h, g⟩ | h
  · exact .inl h
  · exact .inr (.inl h)
  · exact .inr (.inr (.inl h))
  · exact .inr (.inr (.inr (.inl ⟨a, xs, h, s _ _ g⟩)))
  · exact .inr (.inr (.inr (.inr (.inl ⟨a, xs, h, s _ _ g⟩))))
  · exact .inr (.inr (.inr (.inr (.inr (.inl ⟨a, xs, h, s _ _ g⟩)))))
  · exact .inr (.inr (.inr (.inr (.inr (.inr h)))))
theorem NoTx.to {K : PySem.W.Frag} {H : Hp} {v : V} (h : NoTx H v) : (∃ t, TyOf K H v (.type t) ∧ PySem.W.kitOne K (.type t) (.type "str") = some false) ∨ ∃ z : Str, v = .str z ∧ z.length ≤ 90000 ∧ allM z = false := by
  rcases h with rfl | ⟨i, rfl⟩ | ⟨b, rfl⟩ | ⟨a, xs, rfl, g⟩ | ⟨a, xs, rfl, g⟩ | ⟨a, xs, rfl, g⟩ | h
  · exact .inl ⟨_, .non, kit K "NoneType" "str" false (by decide +kernel)⟩
  · exact .inl ⟨_, .int i, kit K "int" "str" false (by decide +kernel)⟩
  · exact .inl ⟨_, .bl b, kit K "bool" "str" false (by decide +kernel)⟩
  · exact .inl ⟨_, .tup g, kit K "tuple" "str" false (by decide +kernel)⟩
  · exact .inl ⟨_, .lst g, kit K "list" "str" false (by decide +kernel)⟩
  · exact .inl ⟨_, .dK g, kit K "dict" "str" false (by decide +kernel)⟩
  · exact .inr h
def Grt (v : V) (m : Int) : Prop := ∃ ls : List Ln, v = .str (txt ls) ∧ (∀ l ∈ ls, l.ok) ∧ ls.length ≤ 300 ∧ ((60 < (uniq ls).length ∧ m = 60) ∨ ((uniq ls).length ≤ 60 ∧ 200 < ls.length ∧ m = 200))
def spRX (C1 C2 : Addr) : Sp := fun vs H _ E => ∃ v r, vs = v :: r ∧ ((NoTx H v ∧ ∀ H', Same H H' → E (.ref C1) none H') ∨ ∃ m, Grt v m ∧ ∀ H' dx, Same H H' → H' dx = none → E (.ref C2) (some dx) (upd H' dx (.xd [("most", .int m)])))
section
variable {P : Program} {w : World} {K : PySem.W.Frag} {mg : Str → Option Value} {base : Heap}
def spRX1 (C1 C2 : Addr) : Sp := fun vs H Q E => (∃ v, vs = [v]) ∧ spRX C1 C2 vs H Q E
def spRX2 (C1 C2 : Addr) : Sp := fun vs H Q E => (∃ v x, vs = [v, .ref x]) ∧ spRX C1 C2 vs H Q E
theorem ok_rdX {f C1 C2 : Addr} {fd : FuncData} (F1 : FnOk P w K mg base (RX.CXe P w) 5 f fd ["text"] (spRdN K C1)) (F2 : FnOk P w K mg base (RX.CXe P w) 5 f fd ["text"] (spRdG C2)) : FnOk P w K mg base (RX.CXe P w) 5 f fd ["text"] (spRX1 C1 C2) := by
  have F := FnOk.or F1 F2
  have key : ∀ vs H Q E, spRX1 C1 C2 vs H Q E → spRdN K C1 vs H Q E ∨ spRdG C2 vs H Q E := by
    rintro vs H Q E ⟨⟨v, rfl⟩, v', r, e, h⟩
    cases e
    rcases h with ⟨h, q⟩ | ⟨m, ⟨ls, rfl, h1, h2, h3⟩, q⟩
    · exact .inl ⟨v, rfl, h.to, q⟩
    · exact .inr ⟨ls, m, rfl, h1, h2, h3, q⟩
  exact ⟨fun vs H Q E h => F.len vs H Q E (key _ _ _ _ h), fun A outer s H args us vs Q E hr e0 hb r h => F.run A outer s H args us vs Q E hr e0 hb r (key _ _ _ _ h)⟩
abbrev sTg : Stmt := inClass (top 12) 0
theorem scTg : FnScope ["self", "most"] ["self", "most"] (defScope sTg) := ⟨rfl, rfl, rfl, by decide +kernel, rfl, by decide +kernel, by decide +kernel⟩
theorem ok_tg {f C D : Addr} {fd : FuncData} (F : Fun K "__init__" "TooGreat.__init__" sTg f fd) (c : RX.XCl K C D) (hn : PySem.W.findIn K (.ref C) "most" = some none) : FnOk P w K mg base CX0 1 f fd ["self", "most"] (RX.spInit C "most") := by
  refine F.ok scTg (fun vs H Q E h => ?_) (fun cdv A outer s H vs Q E hr h => ?_)
  · obtain ⟨e, fv, y, rfl, _⟩ := h
    rfl
  · obtain ⟨e, fv, y, rfl, he, q⟩ := h
    refine ⟨_, pss_one (RX.ps_fldX (pv 0) (pv 1) rfl), ?_⟩
    exact ⟨_, rfl, _, rfl, e, C, D, fv, rfl, he, c, hn, fun dx h1 h2 => q dx h1 h2⟩
abbrev sWm : Stmt := top 52
def spWm : Sp := fun vs H Q _ => ∃ s : Addr, vs = [.ref s] ∧ Q (.ref s) H
theorem scWm : FnScope ["way"] ["way"] (defScope sWm) := ⟨rfl, rfl, rfl, by decide +kernel, rfl, by decide +kernel, by decide +kernel⟩
theorem ok_wm {f : Addr} {fd : FuncData} (F : Fun K "way_or_manifold" "way_or_manifold" sWm f fd) : FnOk P w K mg base CX0 1 f fd ["way"] spWm := by
  refine F.ok scWm (fun vs H Q E h => ?_) (fun cdv A outer s H vs Q E hr h => ?_)
  · obtain ⟨s, rfl, _⟩ := h
    rfl
  · obtain ⟨sw, rfl, q⟩ := h
    refine ⟨_, pss_one (ps_ret (pe_ifExp (pt_cmpR op_isN (pv 0) pe_non (nomark _)) pe_nev (pv 0))), ?_⟩
    refine ⟨_, rfl, rfl, _, rfl, ?_⟩
    refine ite2 (fun z => absurd (of_decide_eq_true z) (fun e => nomatch e)) (fun _ => ?_)
    exact ⟨_, rfl, q⟩
abbrev sSt : Stmt := top 69
abbrev nSt : List Str := ["text", "way", "chosen", "told", "net", "tints"]
theorem scSt : FnScope nSt ["text", "way"] (defScope sSt) := ⟨rfl, rfl, rfl, by decide +kernel, rfl, by decide +kernel, by decide +kernel⟩
theorem ok_st {f fR C1 C2 : Addr} {fd fdR : FuncData} (F : FunD K "settled" "settled" sSt f fd) (FW : FnE P w K mg base "way_or_manifold" ["way"] 5 spWm) (FR : FnOk P w K mg base (RX.CXe P w) 5 fR fdR ["text"] (spRX1 C1 C2)) (gR : mg "read" = some (.ref fR)) (kR : PySem.W.keepIn K (.ref fR) = true) (bR : L2.Binds K fdR ["text"] []) :
    FnOk P w K mg base (RX.CXe P w) 6 f fd ["text", "way"] (spRX2 C1 C2) := by
  refine F.okX scSt (fun vs H Q E h => ?_) (fun cdv A outer s H vs Q E hr h => ?_)
  · obtain ⟨⟨v, x, rfl⟩, _⟩ := h
    rfl
  · obtain ⟨⟨v, x, rfl⟩, v', r, e, h⟩ := h
    cases e
    refine ⟨_, pss_cons (PS.nox (ps_set (i := 2) scSt.nd rfl (Or.inl rfl) (pe_fc FW hr (pa_c (pv 1) pa_nil))))
      (pss_cons (ps_set (i := 3) scSt.nd rfl (Or.inl rfl) (pe_call FR hr rfl gR kR bR .nil (RX.passX fun _ _ _ z => z) (pa_c (pv 0) pa_nil))) pss_never), ?_⟩
    exact ⟨_, rfl, x, rfl, _, rfl, ⟨v, rfl⟩, v, [], rfl, h⟩
structure Kinds (K : PySem.W.Frag) (mg : Str → Option Value) (C : Addr) (bT bG : Bool) : Prop where
  ex : ∃ n1 n2 n3 n4 n5 n6 n7 m1 m2 ct cg : Addr, mg "NoMeeting" = some (.ref n1) ∧ mg "NoName" = some (.ref n2) ∧ mg "NoStep" = some (.ref n3) ∧ mg "NoTie" = some (.ref n4) ∧ mg "NotAlike" = some (.ref n5) ∧ mg "NotClean" = some (.ref n6) ∧ mg "NotPlain" = some (.ref n7) ∧
    mg "NotTwoSided" = some (.ref m1) ∧ mg "TooFew" = some (.ref m2) ∧ mg "NoText" = some (.ref ct) ∧ mg "TooGreat" = some (.ref cg) ∧ PySem.W.kitOne K (.ref C) (.ref n1) = some false ∧ PySem.W.kitOne K (.ref C) (.ref n2) = some false ∧ PySem.W.kitOne K (.ref C) (.ref n3) = some false ∧
    PySem.W.kitOne K (.ref C) (.ref n4) = some false ∧ PySem.W.kitOne K (.ref C) (.ref n5) = some false ∧ PySem.W.kitOne K (.ref C) (.ref n6) = some false ∧ PySem.W.kitOne K (.ref C) (.ref n7) = some false ∧ PySem.W.kitAny K (.ref C) [.ref m1, .ref m2] = some false ∧
    PySem.W.kitOne K (.ref C) (.ref ct) = some bT ∧ PySem.W.kitOne K (.ref C) (.ref cg) = some bG
  ve : PySem.W.kitOne K (.ref C) (.type "ValueError") = some true
  hv : mg "ValueError" = none
  gt : RX.XGet K C
abbrev sKi : Stmt := top 74
abbrev nKi : List Str := ["_law_e", "_law_kinds_here", "_law_others"]
def spKi (K : PySem.W.Frag) (mg : Str → Option Value) : Sp := fun vs H Q _ => ∃ (e C : Addr) (bT bG : Bool) (od : Option Addr), vs = [.ref e] ∧ Kinds K mg C bT bG ∧ H e = some (RX.XO C od e) ∧ (∀ dx, od = some dx → ∃ u, H dx = some u) ∧ ∀ H' l, Same H H' → H' l = some (.lst [.bl bT, .bl bG, .bl true, .bl false]) → Q (.ref l) H'
theorem scKi : FnScope nKi ["_law_e"] (defScope sKi) := ⟨rfl, rfl, rfl, by decide +kernel, rfl, by decide +kernel, by decide +kernel⟩
theorem ok_ki {f : Addr} {fd : FuncData} (F : Fun K "_law_kinds" "_law_kinds" sKi f fd) (T : Bi mg) : RX.FnM P w K mg base 1 f fd ["_law_e"] (spKi K mg) := by
  refine RX.funM_ok F scKi (fun vs H Q E h => ?_) (fun cdv A outer s H vs Q hr h => ?_)
  · obtain ⟨e, C, bT, bG, od, rfl, _⟩ := h
    rfl
  · obtain ⟨e, C, bT, bG, od, rfl, KC, he, hd, q⟩ := h
    obtain ⟨n1, n2, n3, n4, n5, n6, n7, m1, m2, ct, cg, g1, g2, g3, g4, g5, g6, g7, h1, h2, gct, gcg, k1, k2, k3, k4, k5, k6, k7, km, kt, kg⟩ := KC.ex
    refine ⟨_, pss_cons (ps_set (i := 1) scKi.nd rfl (Or.inl rfl) (pe_lstS (pa_c (pe_callB RX.call_isinstX rfl T.isi bIsi (pa_c (pv 0) (pa_c (pe_glob (v := .ref n1) rfl g1 rfl) pa_nil))) (pa_c (pe_callB RX.call_isinstX rfl T.isi bIsi (pa_c (pv 0) (pa_c (pe_glob (v := .ref n2) rfl g2 rfl) pa_nil)))
        (pa_c (pe_callB RX.call_isinstX rfl T.isi bIsi (pa_c (pv 0) (pa_c (pe_glob (v := .ref n3) rfl g3 rfl) pa_nil))) (pa_c (pe_callB RX.call_isinstX rfl T.isi bIsi (pa_c (pv 0) (pa_c (pe_glob (v := .ref n4) rfl g4 rfl) pa_nil))) pa_nil))))))
      (pss_cons (ps_set (i := 1) scKi.nd rfl (Or.inl rfl) (pe_op op_catLS (pv 1) (pe_lstS (pa_c (pe_callB RX.call_isinstX rfl T.isi bIsi (pa_c (pv 0) (pa_c (pe_glob (v := .ref n5) rfl g5 rfl) pa_nil))) (pa_c (pe_callB RX.call_isinstX rfl T.isi bIsi (pa_c (pv 0) (pa_c (pe_glob (v := .ref n6) rfl g6 rfl) pa_nil)))
        (pa_c (pe_callB RX.call_isinstX rfl T.isi bIsi (pa_c (pv 0) (pa_c (pe_glob (v := .ref n7) rfl g7 rfl) pa_nil))) pa_nil))))))
      (pss_cons (ps_set (i := 2) scKi.nd rfl (Or.inl rfl) (pe_or (pe_cmpR op_in_seq pe_bl (pv 1) rfl) (pe_one (pe_callB RX.call_isinstXT rfl T.isi bIsi (pa_c (pv 0) (pa_c (pe_tupS (pa_c (pe_glob (v := .ref m1) rfl h1 rfl) (pa_c (pe_glob (v := .ref m2) rfl h2 rfl) pa_nil))) pa_nil))))))
      (pss_one (ps_ret (pe_lstS (pa_c (pe_callB RX.call_isinstX rfl T.isi bIsi (pa_c (pv 0) (pa_c (pe_glob (v := .ref ct) rfl gct rfl) pa_nil))) (pa_c (pe_callB RX.call_isinstX rfl T.isi bIsi (pa_c (pv 0) (pa_c (pe_glob (v := .ref cg) rfl gcg rfl) pa_nil)))
        (pa_c (pe_callB RX.call_isinstX rfl T.isi bIsi (pa_c (pv 0) (pa_c (pe_bltn (v := .ty "ValueError") rfl KC.hv rfl rfl) pa_nil))) (pa_c (pv 2) pa_nil))))))))), ?_⟩
    have hdd : ∀ {G : Hp}, Same H G → ∀ dx, od = some dx → ∃ u, G dx = some u := fun {G} sG dx hdx => let ⟨u, hu⟩ := hd dx hdx; ⟨u, sG _ _ hu⟩
    refine ⟨_, rfl, e, C, od, _, _, false, rfl, (Same.refl H) _ _ he, hdd (Same.refl H), KC.gt, rfl, k1, _, rfl, e, C, od, _, _, false, rfl, (Same.refl H) _ _ he, hdd (Same.refl H), KC.gt, rfl, k2, _, rfl, e, C, od, _, _, false, rfl, (Same.refl H) _ _ he, hdd (Same.refl H), KC.gt, rfl, k3, _, rfl, e, C, od, _, _, false, rfl, (Same.refl H) _ _ he, hdd (Same.refl H), KC.gt, rfl, k4, rfl, fun l1 H1 s1 hl1 => ?_⟩
    refine ⟨_, rfl, _, rfl, e, C, od, _, _, false, rfl, s1 _ _ he, hdd s1, KC.gt, rfl, k5, _, rfl, e, C, od, _, _, false, rfl, s1 _ _ he, hdd s1, KC.gt, rfl, k6, _, rfl, e, C, od, _, _, false, rfl, s1 _ _ he, hdd s1, KC.gt, rfl, k7, rfl, fun l2 H2 s2 hl2 => ?_⟩
    refine ⟨l1, l2, _, _, rfl, rfl, s2 _ _ hl1, hl2, (by show 4 + 3 ≤ 100000; decide), fun l3 H3 s3 hl3 => ?_⟩
    refine ⟨_, rfl, l3, _, rfl, .inl (SqL.of hl3), rfl, rfl, false, (by rfl), iteF ?_⟩
    have s03 := Same.trans s1 (Same.trans s2 s3)
    refine ⟨_, rfl, rfl, fun tp H4 s4 htp => ?_⟩
    have s04 := Same.trans s03 s4
    refine ⟨e, C, od, tp, [m1, m2], false, rfl, s04 _ _ he, hdd s04, KC.gt, htp, km, ?_⟩
    exact ⟨_, rfl, e, C, od, _, _, bT, rfl, s04 _ _ he, hdd s04, KC.gt, rfl, kt, _, rfl, e, C, od, _, _, bG, rfl, s04 _ _ he, hdd s04, KC.gt, rfl, kg, _, rfl, e, C, od, _, _, true, rfl, s04 _ _ he, hdd s04, KC.gt, rfl, KC.ve, _, rfl, rfl, fun l5 H5 s5 hl5 => q H5 l5 (Same.trans s04 s5) hl5⟩
end
end My
set_option Elab.async false
set_option linter.all false
set_option maxRecDepth 100000
set_option maxHeartbeats 1000000
namespace My
open PySem L2 Tx
section
variable {P : Program} {w : World} {K : PySem.W.Frag} {mg : Str → Option Value} {base : Heap}
abbrev sRf : Stmt := top 75
abbrev nRf : List Str := ["_law_thing", "_law_whole", "_law_seen", "_law_field", "_law_e"]
def RfZ (H : Hp) (l : Addr) (bT bG : Bool) (m : Int) : Prop := ∃ s : Addr, H l = some (.lst [.ref s, .int m]) ∧ H s = some (.lst [.bl bT, .bl bG, .bl true, .bl false])
def spRf : Sp := fun vs H Q _ => ∃ (v : V) (b : Bool), vs = [v, .bl b] ∧ ((NoTx H v ∧ ∀ H' l, Same H H' → RfZ H' l true false 0 → Q (.ref l) H') ∨ ∃ m, Grt v m ∧ ∀ H' l, Same H H' → RfZ H' l false true m → Q (.ref l) H')
theorem scRf : FnScope nRf ["_law_thing", "_law_whole"] (defScope sRf) := ⟨rfl, rfl, rfl, by decide +kernel, rfl, by decide +kernel, by decide +kernel⟩
theorem ok_rf {f C1 C2 te cW fS fR fK : Addr} {fd fdS fdR fdK : FuncData} (F : Fun K "_law_refused" "_law_refused" sRf f fd) (T : Bi mg) (K1 : Kinds K mg C1 true false) (K2 : Kinds K mg C2 false true) (gG : mg "TooGreat" = some (.ref C2)) (gte : mg "TintError" = some (.ref te)) (gW : mg "Way" = some (.ref cW)) (mW : Mk0 K cW)
    (hbG : PySem.W.mroIn K C2 (.type "BaseException") = some true) (hbe : PySem.W.mroIn K te (.type "BaseException") = some true) (k1 : PySem.W.kitCls K (.ref C1) (.ref C2) = some false) (k2 : PySem.W.kitCls K (.ref C1) (.ref te) = some true) (k3 : PySem.W.kitCls K (.ref C2) (.ref C2) = some true) (hn : PySem.W.findIn K (.ref C2) "most" = some none)
    (FS : FnOk P w K mg base (RX.CXe P w) 6 fS fdS ["text", "way"] (spRX2 C1 C2)) (gS : mg "settled" = some (.ref fS)) (kS : PySem.W.keepIn K (.ref fS) = true) (bS : L2.Binds K fdS ["text", "way"] [])
    (FR : FnOk P w K mg base (RX.CXe P w) 6 fR fdR ["text"] (spRX1 C1 C2)) (gR : mg "read" = some (.ref fR)) (kR : PySem.W.keepIn K (.ref fR) = true) (bR : L2.Binds K fdR ["text"] [])
    (FK : RX.FnM P w K mg base 1 fK fdK ["_law_e"] (spKi K mg)) (gK : mg "_law_kinds" = some (.ref fK)) (kK : PySem.W.keepIn K (.ref fK) = true) (bK : L2.Binds K fdK ["_law_e"] []) :
    FnOk P w K mg base CX0 7 f fd ["_law_thing", "_law_whole"] spRf := by
  refine F.ok scRf (fun vs H Q E h => ?_) (fun cdv A outer s H vs Q E hr h => ?_)
  · obtain ⟨v, b, rfl, _⟩ := h
    rfl
  · obtain ⟨v, b, rfl, h⟩ := h
    refine ⟨_, pss_cons (ps_set (i := 2) scRf.nd rfl (Or.inl rfl) (pe_lstS pa_nil))
      (pss_cons (ps_set (i := 3) scRf.nd rfl (Or.inl rfl) pe_int)
      (pss_cons (RX.ps_try rfl rfl (fun pn E Ex ht => pss_one (ps_if (pt_val (pv 1))
          (pss_one (ps_expr (RX.pe_callX FS hr rfl gS kS bS .nil ht (pa_c (pv 0) (pa_c (pe_new mW rfl gW) pa_nil)))))
          (pss_one (ps_expr (RX.pe_callX FR hr rfl gR kR bR .nil ht (pa_c (pv 0) pa_nil))))))
        (RX.ph_as (i := 4) rfl gG hbG scRf.nd rfl rfl (fun e => pss_cons (ps_set (i := 2) scRf.nd rfl (Or.inl rfl) (RX.pe_callM FK (RX.RoomM.mono (RX.RoomM.of hr _) (by decide)) rfl gK kK bK .nil (pa_c (pv 4) pa_nil))) (pss_one (ps_set (i := 3) scRf.nd rfl (Or.inl rfl) (RX.pe_fldXK (K := K) rfl (pv 4) rfl))))
        (RX.ph_as (i := 4) rfl gte hbe scRf.nd rfl rfl (fun e => pss_one (ps_set (i := 2) scRf.nd rfl (Or.inl rfl) (RX.pe_callM FK (RX.RoomM.mono (RX.RoomM.of hr _) (by decide)) rfl gK kK bK .nil (pa_c (pv 4) pa_nil)))) RX.ph_nil)))
      (pss_one (ps_ret (pe_lstS (pa_c (pv 2) (pa_c (pv 3) pa_nil))))))), ?_⟩
    refine ⟨rfl, fun l0 H0 s0 hl0 => ?_⟩
    refine ⟨_, rfl, ?_⟩
    refine ⟨_, rfl, ite2 (fun _ => ?_) (fun _ => ?_)⟩
    · refine ⟨_, rfl, fun x dy hx hdy hne => ?_⟩
      have sB : Same H (upd (upd H0 dy (.own x)) x (.ins cW dy [])) := Same.trans s0 ((same_new hdy).wr hx)
      rcases h with ⟨h, q⟩ | ⟨m, h, q⟩
      · refine ⟨⟨v, x, rfl⟩, v, [.ref x], rfl, .inl ⟨h.keep sB, fun H1 s1 => ?_⟩⟩
        · skip
          refine ⟨C1, false, rfl, k1, iteF ⟨C1, true, rfl, k2, ?_⟩⟩
          rw [if_pos rfl]
          intro e he
          have s1e : Same H1 (upd H1 e (RX.XO C1 none e)) := same_add he
          refine ⟨_, rfl, e, C1, true, false, none, rfl, K1, upd_same, (fun d z => by cases z), fun H2 l s2 hl => ?_⟩
          exact ⟨_, rfl, _, rfl, rfl, fun l3 H3 s3 hl3 => q H3 l3 (Same.trans sB (Same.trans s1 (Same.trans s1e (Same.trans s2 s3)))) ⟨l, hl3, s3 _ _ hl⟩⟩
      · refine ⟨⟨v, x, rfl⟩, v, [.ref x], rfl, .inr ⟨m, h, fun H1 dx s1 hdx => ?_⟩⟩
        · skip
          refine ⟨C2, true, rfl, k3, ?_⟩
          rw [if_pos rfl]
          intro e he
          have hed : e ≠ dx := fun z => by rw [z, upd_same] at he; cases he
          have s1d : Same H1 (upd H1 dx (.xd [("most", .int m)])) := same_add hdx
          have s1e : Same (upd H1 dx (.xd [("most", .int m)])) (upd (upd H1 dx (.xd [("most", .int m)])) e (RX.XO C2 (some dx) e)) := same_add he
          have gd : (upd (upd H1 dx (.xd [("most", .int m)])) e (RX.XO C2 (some dx) e)) dx = some (.xd [("most", .int m)]) := by rw [upd_ne (Ne.symm hed), upd_same]
          refine ⟨_, rfl, e, C2, false, true, some dx, rfl, K2, upd_same, (fun d z => by cases z; exact ⟨_, gd⟩), fun H2 l s2 hl => ?_⟩
          refine ⟨_, rfl, e, C2, dx, _, _, rfl, s2 _ _ upd_same, s2 _ _ gd, K2.gt, hn, rfl, (fun n z => by cases z), ?_⟩
          exact ⟨_, rfl, _, rfl, rfl, fun l3 H3 s3 hl3 => q H3 l3 (Same.trans sB (Same.trans s1 (Same.trans s1d (Same.trans s1e (Same.trans s2 s3))))) ⟨l, hl3, s3 _ _ hl⟩⟩
    · refine ⟨_, rfl, ?_⟩
      have sB : Same H H0 := s0
      rcases h with ⟨h, q⟩ | ⟨m, h, q⟩
      · refine ⟨⟨v, rfl⟩, v, [], rfl, .inl ⟨h.keep sB, fun H1 s1 => ?_⟩⟩
        · skip
          refine ⟨C1, false, rfl, k1, iteF ⟨C1, true, rfl, k2, ?_⟩⟩
          rw [if_pos rfl]
          intro e he
          have s1e : Same H1 (upd H1 e (RX.XO C1 none e)) := same_add he
          refine ⟨_, rfl, e, C1, true, false, none, rfl, K1, upd_same, (fun d z => by cases z), fun H2 l s2 hl => ?_⟩
          exact ⟨_, rfl, _, rfl, rfl, fun l3 H3 s3 hl3 => q H3 l3 (Same.trans sB (Same.trans s1 (Same.trans s1e (Same.trans s2 s3)))) ⟨l, hl3, s3 _ _ hl⟩⟩
      · refine ⟨⟨v, rfl⟩, v, [], rfl, .inr ⟨m, h, fun H1 dx s1 hdx => ?_⟩⟩
        · skip
          refine ⟨C2, true, rfl, k3, ?_⟩
          rw [if_pos rfl]
          intro e he
          have hed : e ≠ dx := fun z => by rw [z, upd_same] at he; cases he
          have s1d : Same H1 (upd H1 dx (.xd [("most", .int m)])) := same_add hdx
          have s1e : Same (upd H1 dx (.xd [("most", .int m)])) (upd (upd H1 dx (.xd [("most", .int m)])) e (RX.XO C2 (some dx) e)) := same_add he
          have gd : (upd (upd H1 dx (.xd [("most", .int m)])) e (RX.XO C2 (some dx) e)) dx = some (.xd [("most", .int m)]) := by rw [upd_ne (Ne.symm hed), upd_same]
          refine ⟨_, rfl, e, C2, false, true, some dx, rfl, K2, upd_same, (fun d z => by cases z; exact ⟨_, gd⟩), fun H2 l s2 hl => ?_⟩
          refine ⟨_, rfl, e, C2, dx, _, _, rfl, s2 _ _ upd_same, s2 _ _ gd, K2.gt, hn, rfl, (fun n z => by cases z), ?_⟩
          exact ⟨_, rfl, _, rfl, rfl, fun l3 H3 s3 hl3 => q H3 l3 (Same.trans sB (Same.trans s1 (Same.trans s1d (Same.trans s1e (Same.trans s2 s3))))) ⟨l, hl3, s3 _ _ hl⟩⟩
end
end My
set_option Elab.async false
set_option linter.all false
set_option maxRecDepth 100000
set_option maxHeartbeats 400000
namespace L2
open PySem PySem.Spec PyProof.Rows
section
variable {X : Cx}
def tStrs (ss : List Str) : TA := fun _ H Q => Q (ss.map V.str) H
def mkC (c : Str × Nat × Pos) : Expr := .Constant (.str c.1) c.2.1 c.2.2
def strC : Expr → Str × Nat × Pos
  | .Constant (.str x) j p => (x, j, p)
  | _ => (Str.empty, 0, ⟨0, 0, 0, 0⟩)
theorem pa_strs : ∀ (cs : List (Str × Nat × Pos)), PA X (cs.map mkC) (tStrs (cs.map (·.1)))
  | [] => pa_nil
  | c :: cs => @pa_c X _ _ _ _ (pe_str (x := c.1) (j := c.2.1) (pos := c.2.2)) (pa_strs cs) rfl
theorem pa_disp (es : List Expr) {ss : List Str} (h : (es.map strC).map mkC = es) (hs : (es.map strC).map (·.1) = ss) : PA X es (tStrs ss) := by
  have := pa_strs (X := X) (es.map strC)
  rw [h, hs] at this
  exact this
end
end L2
set_option Elab.async false
set_option linter.all false
set_option maxRecDepth 100000
set_option maxHeartbeats 400000
namespace L2
open PySem PySem.Spec PyProof.Rows
section
variable {X : Cx}
def rSlS : V → Option Int → Option Int → Hp → VK → Prop := fun x lo hi H Q => ∃ z : Str, x = .str z ∧ z.length ≤ 100000 ∧ Q (.str (Txt.slice z lo hi)) H
theorem part_of {v : Value} {lo : Option Int} (h : IsPart v lo) : ∃ l : Option (Int × Tok), v = partValue l ∧ l.map (·.1) = lo := by
  cases h with
  | none => exact ⟨none, rfl, rfl⟩
  | int i t => exact ⟨some (i, t), rfl, rfl⟩
theorem sl_str : SlR X rSlS := by
  intro pins s σ H x v vl vu lo hi sl Q I rx hs pl pu h
  obtain ⟨z, rfl, hz, q⟩ := h
  obtain ⟨t, rfl⟩ := (show ∃ t, v = Value.str z t from rx)
  obtain ⟨l, rfl, e1⟩ := part_of pl
  obtain ⟨u, rfl, e2⟩ := part_of pu
  subst e1 e2
  refine ⟨"str", _, PySem.F.slot_str_getitem.lookup, typeIs_str _ _ _, wpAny_getItem_str_slice (l := l) (u := u) (st := none) hs rfl ?_⟩
  refine post_val_or_str ⟨Nat.le_trans (Txt.slice_le z (l.map (·.1)) (u.map (·.1))) (leMil hz), fun t' k => ⟨.str _, H, I.tok k, ⟨t', rfl⟩, q⟩⟩
end
end L2
namespace Tx
open PySem
theorem cut_to {z : Str} {j : Nat} (h : j ≤ z.length) : (Txt.slice z none (some (j : Int))).cps.toList = z.cps.toList.take j := by
  rw [eq_of_beq (PyProof.Rows.slice_closes_toL (x := z) (j := (j : Int)) (by omega) (by omega))]
  simp
theorem cut_from {z : Str} {j : Nat} (h : j ≤ z.length) : (Txt.slice z (some (j : Int)) none).cps.toList = z.cps.toList.drop j := by
  rw [eq_of_beq (PyProof.Rows.slice_closes_fromL (x := z) (i := (j : Int)) (b := (z.length : Int)) (by omega) (by omega) rfl)]
  simp only [List.toList_toArray, Int.toNat_natCast]
  refine List.take_of_length_le ?_
  rw [List.length_drop]
  have : z.cps.toList.length = z.length := by simp [Str.length]
  omega
end Tx
set_option Elab.async false
set_option linter.all false
set_option maxRecDepth 100000
set_option maxHeartbeats 1000000
namespace L2
theorem mono_lstS {t : TA} (h : MonoA t) : MonoE (tLstS t) := fun σ H Q Q' k q => h σ H _ _ (fun xs H1 ⟨e, q⟩ => ⟨e, fun p H' s h => k _ _ (q p H' s h)⟩) q
theorem all_flat (u : List PySem.Str) : (u.map V.str).all flatV = true := List.all_eq_true.mpr fun x hx => by
  obtain ⟨z, _, rfl⟩ := List.mem_map.mp hx
  rfl
theorem in_strs (z : PySem.Str) (u : List PySem.Str) : inV (.str z) (u.map V.str) = decide (z ∈ u) := by
  rw [Bool.eq_iff_iff, decide_eq_true_iff]
  unfold inV
  rw [List.any_eq_true]
  constructor
  · rintro ⟨x, hx, e⟩
    obtain ⟨y, hy, rfl⟩ := List.mem_map.mp hx
    have : y = z := by simpa [eqV] using e
    rw [← this]; exact hy
  · intro h
    exact ⟨.str z, List.mem_map.mpr ⟨z, h, rfl⟩, by simp [eqV]⟩
end L2
namespace Tx
open PySem
def putS (z : Str) (at' : Nat) (c : Nat) : List Nat := z.cps.toList.take at' ++ c :: z.cps.toList.drop at'
theorem put_bad_sign {z y : Str} {a c : Nat} (e : y.cps.toList = putS z a c) (h1 : ¬ Sgn c) (h2 : ¬ Sep c) : allM y = false :=
  sign_bad (c := c) (by rw [e]; unfold putS; simp) h1 h2
theorem put_bad_gap {z y : Str} {a s : Nat} (e : y.cps.toList = putS z a s) (hs : Sep s) (h : a = 0 ∨ a = z.length ∨ ∃ c, z.cps.toList[a]? = some c ∧ Sep c) : allM y = false := by
  refine gap_bad e hs ?_
  rcases h with rfl | rfl | ⟨c, hc, s⟩
  · exact .inl rfl
  · refine .inr (.inl (List.drop_eq_nil_of_le ?_))
    rw [len_cps]
    exact Nat.le_refl _
  · refine .inr (.inr ⟨c, z.cps.toList.drop (a + 1), ?_, s⟩)
    have hl := (List.getElem?_eq_some_iff.mp hc)
    obtain ⟨hl, he⟩ := hl
    rw [List.drop_eq_getElem_cons hl, he]
def oddS : Str := Str.ofString ".-?_,A\t"
theorem odd_all : ∀ k : Fin 7, ∃ c, oddS.cps.toList[k.val]? = some c ∧ decide (c ∈ letters.cps.toList) = false ∧ decide (c ∈ figures.cps.toList) = false ∧ (c == 32) = false ∧ (c == 10) = false := by
  have h : (List.range 7).all (fun k => match oddS.cps.toList[k]? with | some c => !decide (c ∈ letters.cps.toList) && !decide (c ∈ figures.cps.toList) && !(c == 32) && !(c == 10) | none => false) = true := by decide +kernel
  intro k
  have := List.all_eq_true.mp h k.val (List.mem_range.mpr k.isLt)
  cases hc : oddS.cps.toList[k.val]? with
  | none => rw [hc] at this; cases this
  | some c =>
    rw [hc] at this
    simp only [Bool.and_eq_true, Bool.not_eq_true'] at this
    exact ⟨c, rfl, this.1.1.1, this.1.1.2, this.1.2, this.2⟩
theorem odd_sign {k c : Nat} (hk : k < 7) (h : oddS.cps.toList[k]? = some c) : ¬ Sgn c ∧ ¬ Sep c := by
  obtain ⟨c', e, h1, h2, h3, h4⟩ := odd_all ⟨k, hk⟩
  rw [h] at e
  cases e
  refine ⟨fun s => s.elim (of_decide_eq_false h1) (of_decide_eq_false h2), fun s => s.elim (fun e => ?_) (fun e => ?_)⟩
  · rw [e] at h3; cases h3
  · rw [e] at h4; cases h4
end Tx
namespace My
open PySem L2 Tx
section
variable {P : Program} {w : World} {K : PySem.W.Frag} {mg : Str → Option Value} {base : Heap}
abbrev sSp : Stmt := top 78
abbrev nSp : List Str := ["_law_script", "_law_text_here", "_law_number", "_law_way", "_law_at", "_law_gaps"]
abbrev spS : Scope := compS (retX (stAt 78 3))
def spSp : Sp := fun vs H Q _ => ∃ (v : V) (z : Str) (n : Int), vs = [v, .str z, .int n] ∧ z.length ≤ 5000 ∧ 0 ≤ n ∧ ∀ H' y, Same H H' → y.length ≤ 6000 → allM y = false → Q (.str y) H'
theorem ndSp : (["_law_k", "_law_text_here"] : List Str).Nodup := by decide +kernel
theorem scSp : FnScope nSp ["_law_script", "_law_text_here", "_law_number"] (defScope sSp) := ⟨rfl, rfl, rfl, by decide +kernel, rfl, by decide +kernel, by decide +kernel⟩
theorem blkSp {f : Addr} {cdv : Value} {A : Around} {outer : List Env} {s : Shared} {H : Hp} {E : XK} :
    Blk (cxOf CX0 P w K mg base nSp "_law_spoiled" (defScope sSp) f cdv A outer s H E).nox spS [("_law_text_here", s.heap.objs.size + 1)] ["_law_k", "_law_text_here"] [none, some 1] := by
  refine ⟨rfl, rfl, by decide +kernel, by decide +kernel, fun p hp => ?_, fun y hy e => ?_, ⟨rfl, rfl, rfl⟩, trivial⟩
  · rw [List.mem_singleton.mp hp]
    rfl
  · have hy' : y ∈ [((PySem.Str.ofString ".0" : Str), NameKind.local), (PySem.Str.ofString "_law_k", .local), (PySem.Str.ofString "_law_text_here", .free)] := hy
    simp only [List.mem_cons, List.not_mem_nil, or_false] at hy'
    rcases hy' with rfl | rfl | rfl <;> first | rfl | cases e
theorem gap_at {ks : List Nat} {len : Nat} {Pr : Nat → Prop} (hk : ∀ k ∈ ks, k < len ∧ Pr k) (j : Nat) (hj : j < ks.length + 2) : ∃ a : Nat, (([V.int 0, V.int (len : Int)] ++ ks.map fun k : Nat => V.int (k : Int)))[j]? = some (.int (a : Int)) ∧ a ≤ len ∧ (a = 0 ∨ a = len ∨ Pr a) := by
  match j, hj with
  | 0, _ => exact ⟨0, rfl, Nat.zero_le _, .inl rfl⟩
  | 1, _ => exact ⟨len, rfl, Nat.le_refl _, .inr (.inl rfl)⟩
  | j + 2, hj =>
    have hl : j < ks.length := by omega
    refine ⟨ks[j], ?_, Nat.le_of_lt (hk _ (List.getElem_mem hl)).1, .inr (.inr (hk _ (List.getElem_mem hl)).2)⟩
    show (ks.map fun k : Nat => V.int (k : Int))[j]? = _
    rw [List.getElem?_map, List.getElem?_eq_getElem hl]
    rfl
def gapsS : Str := Str.ofString " \n"
theorem gaps_at {c : Nat} (h : c ∈ gapsS.cps.toList) : Sep c := by
  have e : gapsS.cps.toList = [32, 10] := by decide +kernel
  rw [e] at h
  simp only [List.mem_cons, List.not_mem_nil, or_false] at h
  exact h
theorem ok_sp {f : Addr} {fd : FuncData} (F : Fun K "_law_spoiled" "_law_spoiled" sSp f fd) (T : Bi mg) : FnOk P w K mg base CX0 1 f fd ["_law_script", "_law_text_here", "_law_number"] spSp := by
  refine F.ok scSp (fun vs H Q E h => ?_) (fun cdv A outer s H vs Q E hr h => ?_)
  · obtain ⟨v, z, n, rfl, _⟩ := h
    rfl
  · obtain ⟨v, z, n, rfl, hz, hn, q⟩ := h
    have lenM : ∀ σ' : Nat, MonoE (tCB (fun xs H Q => ∃ z : Str, xs = [V.str z] ∧ z.length ≤ sizeLine ∧ Q (V.int ↑z.length) H) (tCons (tVar σ') tNil)) := fun σ' σ H Q Q' k q => monoA_cons (mono_var σ') monoA_nil σ H _ _ (fun vs H1 ⟨z, e, s, q⟩ => ⟨z, e, s, k _ _ q⟩) q
    refine ⟨_, pss_cons (ps_set (i := 3) scSp.nd rfl (Or.inl rfl) (pe_op op_mod (pv 2) pe_int))
      (pss_cons (ps_set (i := 4) scSp.nd rfl (Or.inl rfl) (pe_op op_mod (pe_op op_fdiv (pv 2) pe_int) (pe_op op_add (pe_callB call_len_str rfl T.len bLen (pa_c (pv 1) pa_nil)) pe_int)))
      (pss_cons (ps_if (pt_cmpR op_lt (pv 3) pe_int (nomark _)) (pss_one (ps_ret (pe_op op_add_str (pe_op op_add_str (pe_slice sl_str (pv 1) po_none (po_some (pv 4))) (pe_ix ix_str pe_str (pe_op op_mod (pe_op op_fdiv (pv 2) pe_int) pe_int) (fun _ _ => rfl))) (pe_slice sl_str (pv 1) (po_some (pv 4)) po_none)))) pss_nil)
      (pss_cons (ps_set (i := 5) scSp.nd rfl (Or.inl rfl) (pe_op op_catLS (pe_lstS (pa_c pe_int (pa_c (pe_callB call_len_str rfl T.len bLen (pa_c (pv 1) pa_nil)) pa_nil))) (pe_lcR blkSp rfl rfl T.range (pa_c (pe_callB call_len_str rfl T.len bLen (pa_c (pv 1) pa_nil)) pa_nil) (monoA_cons (lenM 1) monoA_nil) rfl
        (fun C fp s H => pg_name (i := 0) ndSp rfl (Or.inl rfl) (hf := Or.inr rfl)) (fun C fp s H => pts_one (pt_cmpR op_in_str (pe_ix ix_str (pv 1) (pv 0) (fun _ _ => rfl)) pe_str rfl)) (fun C fp s H => pv 0))))
      (pss_cons (ps_set (i := 4) scSp.nd rfl (Or.inl rfl) (pe_ix ix_list (pv 5) (pe_op op_mod (pe_op op_fdiv (pv 2) pe_int) (pe_callB call_len_seq rfl T.len bLen (pa_c (pv 5) pa_nil))) (fun _ _ => rfl)))
      (pss_one (ps_ret (pe_op op_add_str (pe_op op_add_str (pe_slice sl_str (pv 1) po_none (po_some (pv 4))) (pe_ix ix_str pe_str (pe_op op_sub (pv 3) pe_int) (fun _ _ => rfl))) (pe_slice sl_str (pv 1) (po_some (pv 4)) po_none)))))))), ?_⟩
    have w0 := mod_lo (n := n) (p := 4) (by decide)
    have w1 := mod_hi (n := n) (p := 4) (by decide)
    have a0 := mod_lo (n := n / 4) (p := (z.length : Int) + 1) (by omega)
    have a1 := mod_hi (n := n / 4) (p := (z.length : Int) + 1) (by omega)
    have fin : ∀ (a c : Nat), a ≤ z.length → ∀ y : Str, y = Txt.slice z none (some (a : Int)) ++ (⟨#[c]⟩ : Str) ++ Txt.slice z (some (a : Int)) none → y.cps.toList = putS z a c ∧ y.length ≤ 6000 := fun a c ha y e => by
      have e1 : y.cps.toList = putS z a c := by
        rw [e, app_cps, app_cps, cut_to ha, cut_from ha]
        unfold putS
        simp
      refine ⟨e1, ?_⟩
      rw [← len_cps, e1]
      unfold putS
      rw [List.length_append, List.length_cons, List.length_take, List.length_drop, len_cps]
      omega
    have le1 : ∀ lo hi, (Txt.slice z lo hi).length ≤ 5000 := fun lo hi => Nat.le_trans (Txt.slice_le z lo hi) hz
    have lc : ∀ c : Nat, (⟨#[c]⟩ : Str).length = 1 := fun c => rfl
    refine ⟨_, rfl, _, _, rfl, rfl, (by show (0 : Int) < 4; decide), ?_⟩
    dsimp only [gName]
    generalize hw : n % 4 = wy at w0 w1
    refine ⟨_, rfl, _, _, rfl, rfl, ⟨by decide, by decide⟩, _, rfl, z, rfl, leMil (by omega), _, _, rfl, rfl, _, _, rfl, rfl, (by show (0 : Int) < (z.length : Int) + 1; omega), ?_⟩
    dsimp only [gName]
    obtain ⟨a, ha⟩ : ∃ a : Nat, (a : Int) = n / 4 % ((z.length : Int) + 1) := ⟨(n / 4 % ((z.length : Int) + 1)).toNat, by omega⟩
    rw [← ha] at a0 a1 ⊢
    refine ⟨_, rfl, _, _, rfl, rfl, _, rfl, ite2 (fun _ => ?_) (fun hw2 => ?_)⟩
    · have k0 := mod_lo (n := n / 4) (p := 7) (by decide)
      have k1 := mod_hi (n := n / 4) (p := 7) (by decide)
      obtain ⟨k, hk⟩ : ∃ k : Nat, (k : Int) = n / 4 % 7 := ⟨(n / 4 % 7).toNat, by omega⟩
      obtain ⟨c, hc, _⟩ := odd_all ⟨k, by omega⟩
      have hat : atI oddS.cps.toList (n / 4 % 7) = some c := by rw [← hk]; exact atI_nat hc
      obtain ⟨f1, f2⟩ := fin a c (by omega) _ rfl
      obtain ⟨o1, o2⟩ := odd_sign (by omega) hc
      refine ⟨_, rfl, _, rfl, _, rfl, z, rfl, by omega, _, rfl, _, _, rfl, rfl, ⟨by decide, by decide⟩, _, _, rfl, rfl, (by show (0 : Int) < 7; decide), oddS, _, c, rfl, rfl, leMil (by decide +kernel), hat, _, _, rfl, rfl, leMil (by have := le1 none (some (a : Int)); rw [lc]; omega), ?_⟩
      refine ⟨_, rfl, _, rfl, _, rfl, z, rfl, by omega, _, _, rfl, rfl, leMil (by have := le1 none (some (a : Int)); have := le1 (some (a : Int)) none; rw [len_app, lc]; omega), ?_⟩
      exact q H _ (Same.refl _) f2 (put_bad_sign f1 o1 o2)
    · have hw3 : 2 ≤ wy := by
        by_cases z2 : wy < 2
        · exact absurd (decide_eq_true z2) hw2
        · omega
      obtain ⟨Pk, hPk⟩ : ∃ Pk : Nat → Bool, Pk = fun k => (z.cps.toList[k]?.any fun c => decide (c ∈ gapsS.cps.toList)) := ⟨_, rfl⟩
      refine ⟨_, rfl, z, rfl, leMil (by omega), rfl, fun l1 H1 s1 hl1 => ?_⟩
      refine ⟨_, rfl, z, rfl, leMil (by omega), z.length, rfl, by omega, fun i ys σ G => Same H1 G ∧ ys = ((List.range i).filter Pk).map (fun k : Nat => V.int (k : Int)) ∧ ∃ v0, σ = [v0, some (.str z)], ⟨Same.refl _, rfl, none, rfl⟩, fun i ys σ G hi ⟨e1, e2, _⟩ => ?_, fun i ys σ G hi ⟨e1, e2, v0, e3⟩ => ?_, fun ys σ G ⟨e1, e2, _⟩ l2 G2 s2 hl2 => ?_⟩
      · rw [e2, List.length_map]
        exact Nat.le_trans (List.length_filter_le _ _) (by rw [List.length_range]; exact Nat.le_refl _)
      · subst e3
        rw [Int.zero_add]
        have hc := List.getElem?_eq_getElem (show i < z.cps.toList.length by rw [len_cps]; exact hi)
        generalize z.cps.toList[i] = c at hc
        have hf : (List.range (i + 1)).filter Pk = (List.range i).filter Pk ++ [i].filter Pk := by rw [List.range_succ, List.filter_append]
        have hp : Pk i = decide (c ∈ gapsS.cps.toList) := by rw [hPk]; show (z.cps.toList[i]?.any _) = _; rw [hc]; rfl
        refine ⟨_, rfl, _, rfl, z, _, c, rfl, rfl, leMil (by omega), atI_nat hc, _, gapsS, rfl, rfl, _, rfl, ?_⟩
        rw [in_sign]
        refine ite2 (fun h => ⟨_, rfl, e1, ?_, _, rfl⟩) (fun h => ⟨e1, ?_, _, rfl⟩)
        · rw [hf, List.filter_cons_of_pos (by rw [hp]; exact h), List.map_append, e2]
          rfl
        · rw [hf, List.filter_cons_of_neg (by rw [hp]; exact h), List.map_append, e2]
          simp
      · obtain ⟨ks, hks⟩ : ∃ ks, ks = (List.range z.length).filter Pk := ⟨_, rfl⟩
        rw [← hks] at e2
        have hkl : ks.length ≤ z.length := by rw [hks]; exact Nat.le_trans (List.length_filter_le _ _) (by rw [List.length_range]; exact Nat.le_refl _)
        have hkp : ∀ k ∈ ks, k < z.length ∧ ∃ c, z.cps.toList[k]? = some c ∧ Sep c := fun k hk => by
          rw [hks] at hk
          obtain ⟨m1, m2⟩ := List.mem_filter.mp hk
          have m1 := List.mem_range.mp m1
          refine ⟨m1, ?_⟩
          have hc := List.getElem?_eq_getElem (show k < z.cps.toList.length by rw [len_cps]; exact m1)
          refine ⟨_, hc, gaps_at ?_⟩
          rw [hPk] at m2
          have m3 : (z.cps.toList[k]?.any fun c => decide (c ∈ gapsS.cps.toList)) = true := m2
          rw [hc] at m3
          exact of_decide_eq_true m3
        refine ⟨l1, l2, _, _, rfl, rfl, s2 _ _ (e1 _ _ hl1), hl2, by rw [e2, List.length_map]; simp only [List.length_cons, List.length_nil]; omega, fun p G3 s3 hp => ?_⟩
        rw [e2] at hp
        have s03 : Same H G3 := Same.trans s1 (Same.trans e1 (Same.trans s2 s3))
        have ll : (([V.int 0, V.int (z.length : Int)] ++ ks.map fun k : Nat => V.int (k : Int)).length : Int) = (ks.length : Int) + 2 := by rw [List.length_append, List.length_map]; simp only [List.length_cons, List.length_nil]; omega
        have j0 := mod_lo (n := n / 4) (p := (ks.length : Int) + 2) (by omega)
        have j1 := mod_hi (n := n / 4) (p := (ks.length : Int) + 2) (by omega)
        obtain ⟨j, hj⟩ : ∃ j : Nat, (j : Int) = n / 4 % ((ks.length : Int) + 2) := ⟨(n / 4 % ((ks.length : Int) + 2)).toNat, by omega⟩
        obtain ⟨b, hb1, hb2, hb3⟩ := gap_at (len := z.length) (Pr := fun k => ∃ c, z.cps.toList[k]? = some c ∧ Sep c) hkp j (by omega)
        have hat : atI ([V.int 0, V.int (z.length : Int)] ++ ks.map fun k : Nat => V.int (k : Int)) (n / 4 % (([V.int 0, V.int (z.length : Int)] ++ ks.map fun k : Nat => V.int (k : Int)).length : Int)) = some (.int (b : Int)) := by
          rw [ll, ← hj]
          exact atI_nat hb1
        refine ⟨_, rfl, _, rfl, _, _, rfl, rfl, ⟨by decide, by decide⟩, _, rfl, p, _, rfl, .inl (SqL.of hp), _, _, rfl, rfl, (by show (0 : Int) < (([V.int 0, V.int (z.length : Int)] ++ ks.map fun k : Nat => V.int (k : Int)).length : Int); rw [ll]; omega), p, _, _, .int (b : Int), rfl, rfl, SqL.of hp, hat, ?_⟩
        obtain ⟨c, hc, hs⟩ : ∃ c, atI gapsS.cps.toList (wy - 2) = some c ∧ Sep c := by
          have e : gapsS.cps.toList = [32, 10] := by decide +kernel
          rw [e]
          have : wy = 2 ∨ wy = 3 := by omega
          rcases this with rfl | rfl
          · exact ⟨32, atI_nat (j := 0) rfl, .inl rfl⟩
          · exact ⟨10, atI_nat (j := 1) rfl, .inr rfl⟩
        obtain ⟨f1, f2⟩ := fin b c hb2 _ rfl
        refine ⟨_, rfl, _, rfl, _, rfl, z, rfl, by omega, _, rfl, _, _, rfl, rfl, gapsS, _, c, rfl, rfl, leMil (by decide +kernel), hc, _, _, rfl, rfl, leMil (by have := le1 none (some (b : Int)); rw [lc]; omega), ?_⟩
        refine ⟨_, rfl, _, rfl, _, rfl, z, rfl, by omega, _, _, rfl, rfl, leMil (by have := le1 none (some (b : Int)); have := le1 (some (b : Int)) none; rw [len_app, lc]; omega), ?_⟩
        exact q G3 _ s03 f2 (put_bad_gap f1 hs hb3)
end
end My
set_option Elab.async false
set_option linter.all false
set_option maxRecDepth 100000
set_option maxHeartbeats 1000000
namespace My
open PySem L2 Tx
section
variable {P : Program} {w : World} {K : PySem.W.Frag} {mg : Str → Option Value} {base : Heap}
abbrev sNs : Stmt := top 73
abbrev nNs : List Str := ["_law_script", "_law_at", "_law_many", "_law_found", "_law_k", "_law_name"]
abbrev nsS : Scope := compS (retX (stAt 73 2))
def spNs (K : PySem.W.Frag) : Sp := fun vs H Q _ => ∃ (a : Addr) (ns : List Int) (m : Int), vs = [.ref a, .int 10, .int m] ∧ SqL K H a (ns.map V.int) ∧ Dr ns ∧ 0 ≤ m ∧ m ≤ 20 ∧ ∀ H' l (u : List Str), Same H H' → H' l = some (.lst (u.map V.str)) → (∀ z ∈ u, nameB z = true) → u.Nodup → 2 ≤ u.length → u.length ≤ 22 → Q (.ref l) H'
theorem ndNs : (["_law_name", "_law_found"] : List Str).Nodup := by decide +kernel
theorem scNs : FnScope nNs ["_law_script", "_law_at", "_law_many"] (defScope sNs) := ⟨rfl, rfl, rfl, by decide +kernel, rfl, by decide +kernel, by decide +kernel⟩
theorem blkNs {f : Addr} {cdv : Value} {A : Around} {outer : List Env} {s : Shared} {H : Hp} {E : XK} :
    Blk (cxOf CX0 P w K mg base nNs "_law_names" (defScope sNs) f cdv A outer s H E).nox nsS [("_law_found", s.heap.objs.size + 1)] ["_law_name", "_law_found"] [none, some 3] := by
  refine ⟨rfl, rfl, by decide +kernel, by decide +kernel, fun p hp => ?_, fun y hy e => ?_, ⟨rfl, rfl, rfl⟩, trivial⟩
  · rw [List.mem_singleton.mp hp]
    rfl
  · have hy' : y ∈ [((PySem.Str.ofString ".0" : Str), NameKind.local), (PySem.Str.ofString "_law_name", .local), (PySem.Str.ofString "_law_found", .free)] := hy
    simp only [List.mem_cons, List.not_mem_nil, or_false] at hy'
    rcases hy' with rfl | rfl | rfl <;> first | rfl | cases e
abbrev ada : Str := Str.ofString "ada"
abbrev adb : Str := Str.ofString "adb"
theorem ada_ok : nameB ada = true ∧ nameB adb = true ∧ ada ≠ adb := by decide +kernel
theorem ok_ns {f : Addr} {fd : FuncData} (F : Fun K "_law_names" "_law_names" sNs f fd) (T : Bi mg) (FD : FnE P w K mg base "_law_draw" ["_law_script", "_law_k"] 1 (spDraw K)) (FW : FnE P w K mg base "_law_word" ["_law_number"] 1 spWo) : FnOk P w K mg base CX0 2 f fd ["_law_script", "_law_at", "_law_many"] (spNs K) := by
  refine F.ok scNs (fun vs H Q E h => ?_) (fun cdv A outer s H vs Q E hr h => ?_)
  · obtain ⟨a, ns, m, rfl, _⟩ := h
    rfl
  · obtain ⟨a, ns, m, rfl, hS, hD, m0, m1, q⟩ := h
    refine ⟨_, pss_cons (ps_set (i := 3) scNs.nd rfl (Or.inr rfl) (pe_lst pa_nil))
      (pss_cons (ps_for PassesOwn.never rfl (pi_range1 rfl T.range (pa_c (pv 2) pa_nil)) (pg_name (i := 4) scNs.nd rfl (Or.inl rfl))
        (pss_cons (ps_set (i := 5) scNs.nd rfl (Or.inl rfl) (pe_fc FW hr (pa_c (pe_op op_add (pe_fc FD hr (pa_c (pv 0) (pa_c (pe_op op_add (pv 1) (pe_op op_mod (pv 4) pe_int)) pa_nil))) (pe_op op_mul pe_int (pe_op op_add (pv 4) (pe_op op_mod (pe_fc FD hr (pa_c (pv 0) (pa_c (pe_op op_add (pv 1) pe_int) pa_nil))) pe_int)))) pa_nil)))
        (pss_cons (ps_if (pt_cmpR op_in_seq (pv 5) (pv 3) rfl) (pss_one (ps_set (i := 5) scNs.nd rfl (Or.inl rfl) (pe_fc FW hr (pa_c (pe_fc FD hr (pa_c (pv 0) (pa_c (pe_op op_add (pe_op op_add (pv 1) pe_int) (pv 4)) pa_nil))) pa_nil)))) pss_nil)
        (pss_one (ps_if (pt_cmpR op_notIn_seq (pv 5) (pv 3) rfl) (pss_one (ps_expr (pe_bm PySem.F.plainAttrs_list PySem.F.slot_list_append PySem.F.type_list_append mt_append (pv 3) (pa_c (pv 5) pa_nil)))) pss_nil)))))
      (pss_one (ps_ret (pe_op op_catLS (pv 3) (pe_lcL blkNs rfl (pe_lstS (pa_c pe_str (pa_c pe_str pa_nil))) (mono_lstS (monoA_cons (mono_c _) (monoA_cons (mono_c _) monoA_nil))) (fun C fp s H => pg_name (i := 0) ndNs rfl (Or.inl rfl) (hf := Or.inr rfl))
        (fun C fp s H => pts_one (pt_cmpR (op_notInK (K := K) rfl) (pv 0) (pv 1) rfl)) (fun C fp s H => pv 0)))))), ?_⟩
    refine ⟨Nat.zero_le _, fun N hN => ?_⟩
    refine ⟨_, rfl, m, rfl, by omega, by omega, for_range (lo := 0) (n := m.toNat) (fun i σ G => (∃ v4 v5, σ = [some (.ref a), some (.int 10), some (.int m), some (.ref N), v4, v5]) ∧ Same H G ∧ ∃ u : List Str, G N = some (.lst (u.map V.str)) ∧ (∀ z ∈ u, nameB z = true) ∧ u.Nodup ∧ u.length ≤ i)
      ⟨⟨_, _, rfl⟩, same_new hN, [], upd_same, (fun z h => by cases h), List.nodup_nil, Nat.le_refl _⟩ (fun i σ G hi ⟨⟨v4, v5, e⟩, sG, u, hu, hn, hnd, hul⟩ => ?_) (fun σ G ⟨⟨v4, v5, e⟩, sG, u, hu, hn, hnd, hul⟩ => ?_)⟩
    · subst e
      rw [Int.zero_add]
      have hi' : (i : Int) < m := by omega
      have m3 := mod_lo (n := (i : Int)) (p := 3) (by decide)
      have m4 := mod_hi (n := (i : Int)) (p := 3) (by decide)
      have hSG : SqL K G a (ns.map V.int) := sG.seq hS
      have app : ∀ z : Str, nameB z = true → z ∉ u → ∃ v : List Str, (upd G N (.lst (u.map V.str ++ [.str z]))) N = some (.lst (v.map V.str)) ∧ (∀ z ∈ v, nameB z = true) ∧ v.Nodup ∧ v.length ≤ i + 1 := fun z hz hzu => by
        refine ⟨u ++ [z], by rw [upd_same, List.map_append]; rfl, fun y hy => ?_, ?_, by rw [List.length_append]; exact Nat.succ_le_succ hul⟩
        · rcases List.mem_append.mp hy with hy | hy
          · exact hn y hy
          · rw [List.mem_singleton.mp hy]; exact hz
        · have := nodup_addN (z := z) hnd
          unfold addN at this
          rwa [if_neg hzu] at this
      have szN : (List.map V.str u).length < sizeLine := by rw [List.length_map, sizeLine_eq]; omega
      refine ⟨_, rfl, _, rfl, _, rfl, _, _, rfl, rfl, (by show (0 : Int) < 3; decide), _, _, rfl, rfl, a, ns, _, rfl, hSG, hD, by omega, by omega, ?_⟩
      have d0 := draw_nn ns (10 + (i : Int) % 3)
      generalize draw ns (10 + (i : Int) % 3) = D1 at d0
      refine ⟨_, rfl, _, rfl, _, rfl, _, _, rfl, rfl, a, ns, _, rfl, hSG, hD, by omega, by omega, _, _, rfl, rfl, (by show (0 : Int) < 26; decide), ?_⟩
      have r0 := mod_lo (n := draw ns (10 + 3)) (p := 26) (by decide)
      generalize draw ns (10 + 3) % 26 = R1 at r0
      refine ⟨_, _, rfl, rfl, _, _, rfl, rfl, .inl ⟨by decide, by decide⟩, _, _, rfl, rfl, _, rfl, by omega, fun z hz => ?_⟩
      refine ⟨_, rfl, _, rfl, N, _, rfl, .inl (SqL.of hu), rfl, all_flat u, _, rfl, ite2 (fun _ => ?_) (fun _ => ?_)⟩
      · refine ⟨_, rfl, _, rfl, _, _, rfl, rfl, _, rfl, _, _, rfl, rfl, a, ns, _, rfl, hSG, hD, by omega, by omega, _, rfl, draw_nn ns _, fun z hz => ?_⟩
        refine ⟨_, rfl, _, rfl, N, _, rfl, .inl (SqL.of hu), rfl, all_flat u, _, rfl, ite2 (fun h => ?_) (fun h => ⟨⟨_, _, rfl⟩, sG, u, hu, hn, hnd, by omega⟩)⟩
        rw [if_pos rfl, in_strs] at h
        exact ⟨_, rfl, .inl ⟨rfl, _, SqL.of hu⟩, _, rfl, N, _, _, rfl, rfl, hu, szN, ⟨_, _, rfl⟩, sG.wr hN, app z hz (by simpa using h)⟩
      · refine ⟨_, rfl, _, rfl, N, _, rfl, .inl (SqL.of hu), rfl, all_flat u, _, rfl, ite2 (fun h => ?_) (fun h => ⟨⟨_, _, rfl⟩, sG, u, hu, hn, hnd, by omega⟩)⟩
        rw [if_pos rfl, in_strs] at h
        exact ⟨_, rfl, .inl ⟨rfl, _, SqL.of hu⟩, _, rfl, N, _, _, rfl, rfl, hu, szN, ⟨_, _, rfl⟩, sG.wr hN, app z hz (by simpa using h)⟩
    · subst e
      obtain ⟨ok1, ok2, ok3⟩ := ada_ok
      refine ⟨_, rfl, rfl, fun l1 G1 s1 hl1 => ?_⟩
      refine ⟨l1, [ada, adb].map V.str, rfl, SqL.of hl1, (by show 2 ≤ 100000; decide), fun i ys σ G' => Same G1 G' ∧ ys = (([ada, adb].take i).filter fun z => !decide (z ∈ u)).map V.str ∧ ∃ v0, σ = [v0, some (.ref N)], ⟨Same.refl _, rfl, none, rfl⟩, fun i ys σ G' hi ⟨e1, e2, _⟩ => ⟨SqL.of (e1 _ _ hl1), ?_⟩, fun i x ys σ G' hx ⟨e1, e2, v0, e3⟩ => ?_, fun ys σ G' ⟨e1, e2, _⟩ l2 G2 s2 hl2 => ?_⟩
      · rw [e2, List.length_map]
        exact Nat.le_trans (List.length_filter_le _ _) (by rw [List.length_take]; omega)
      · subst e3
        rw [List.getElem?_map] at hx
        cases hq : [ada, adb][i]? with
        | none => rw [hq] at hx; cases hx
        | some z =>
          rw [hq] at hx
          cases hx
          have hf : ([ada, adb].take (i + 1)).filter (fun z => !decide (z ∈ u)) = ([ada, adb].take i).filter (fun z => !decide (z ∈ u)) ++ [z].filter (fun z => !decide (z ∈ u)) := by
            rw [List.take_succ, hq, List.filter_append]
            rfl
          refine ⟨_, rfl, _, rfl, N, _, rfl, .inl (SqL.of (e1 _ _ (s1 _ _ hu))), rfl, all_flat u, _, rfl, ?_⟩
          rw [if_pos rfl, in_strs]
          refine ite2 (fun h => ⟨_, rfl, e1, ?_, _, rfl⟩) (fun h => ⟨e1, ?_, _, rfl⟩)
          · rw [hf, List.filter_cons_of_pos (by simpa using h), List.map_append, e2]
            rfl
          · rw [hf, List.filter_cons_of_neg (by simpa using h), List.map_append, e2]
            simp
      · have e2' : ys = ([ada, adb].filter fun z => !decide (z ∈ u)).map V.str := e2
        have sf : ([ada, adb].filter fun z => !decide (z ∈ u)).length ≤ 2 := List.length_filter_le _ _
        refine ⟨N, l2, _, _, rfl, rfl, s2 _ _ (e1 _ _ (s1 _ _ hu)), hl2, ?_, fun p G3 s3 hp => q G3 p (u ++ [ada, adb].filter fun z => !decide (z ∈ u)) (Same.trans sG (Same.trans s1 (Same.trans e1 (Same.trans s2 s3)))) (by rw [hp, e2', List.map_append]) ?_ ?_ ?_ ?_⟩
        · rw [List.length_map, e2', List.length_map]
          omega
        · intro z hz
          rcases List.mem_append.mp hz with hz | hz
          · exact hn z hz
          · have := (List.mem_filter.mp hz).1
            simp only [List.mem_cons, List.not_mem_nil, or_false] at this
            rcases this with rfl | rfl
            · exact ok1
            · exact ok2
        · rw [List.nodup_append]
          refine ⟨hnd, List.Pairwise.filter _ (by show [ada, adb].Nodup; rw [List.nodup_cons]; exact ⟨fun h => ok3 (List.mem_singleton.mp h), by simp⟩), fun x hx y hy e => ?_⟩
          have := (List.mem_filter.mp hy).2
          rw [← e] at this
          simp [hx] at this
        · refine nodup_le (v := [ada, adb]) (by rw [List.nodup_cons]; exact ⟨fun h => ok3 (List.mem_singleton.mp h), by simp⟩) fun y hy => ?_
          by_cases h : y ∈ u
          · exact List.mem_append.mpr (.inl h)
          · exact List.mem_append.mpr (.inr (List.mem_filter.mpr ⟨hy, by simp [h]⟩))
        · rw [List.length_append]
          omega
end
end My
set_option Elab.async false
set_option linter.all false
set_option maxRecDepth 100000
set_option maxHeartbeats 1000000
namespace Tx
open PySem
theorem oth_ne {o r L : Int} (o0 : 0 ≤ o) (o1 : o < L) (r0 : 0 ≤ r) (r1 : r < L - 1) : (o + 1 + r) % L ≠ o := by
  by_cases h : o + 1 + r < L
  · rw [Int.emod_eq_of_lt (by omega) h]
    omega
  · have e : (o + 1 + r) % L = (o + 1 + r - L) % L := by rw [Int.sub_emod_right]
    rw [e, Int.emod_eq_of_lt (by omega) (by omega)]
    omega
theorem app_assoc (a b c : Str) : a ++ b ++ c = a ++ (b ++ c) := sext (by rw [app_cps, app_cps, app_cps, app_cps, List.append_assoc])
theorem sp_len : sp.length = 1 := by decide +kernel
theorem line_h {l : Ln} {n : Int} (h : l.h = some n) : lineT l = l.a ++ sp ++ l.b ++ sp ++ num n := by
  unfold lineT Ln.ws
  rw [h]
  show l.a ++ sp ++ (l.b ++ sp ++ num n) = _
  rw [app_assoc (l.a ++ sp ++ l.b), app_assoc (l.a ++ sp), app_assoc l.b]
end Tx
namespace My
open PySem L2 Tx
theorem nodup_ix {u : List Str} (h : u.Nodup) {i j : Nat} (hi : i < u.length) (hj : j < u.length) (e : u[i] = u[j]) : i = j := by
  rcases Nat.lt_trichotomy i j with c | c | c
  · exact absurd e ((List.pairwise_iff_getElem.mp h) i j hi hj c)
  · exact c
  · exact absurd e.symm ((List.pairwise_iff_getElem.mp h) j i hj hi c)
section
variable {P : Program} {w : World} {K : PySem.W.Frag} {mg : Str → Option Value} {base : Heap}
abbrev sTx : Stmt := top 76
abbrev nTx : List Str := ["_law_script", "_law_names_here", "_law_many", "_law_lines", "_law_k", "_law_number", "_law_one", "_law_other", "_law_line"]
abbrev pTx : List Str := ["_law_script", "_law_names_here", "_law_many"]
def spTx (K : PySem.W.Frag) : Sp := fun vs H Q _ => ∃ (a NL : Addr) (ns : List Int) (m : Int) (u : List Str), vs = [.ref a, .ref NL, .int m] ∧ SqL K H a (ns.map V.int) ∧ Dr ns ∧ H NL = some (.lst (u.map V.str)) ∧ (∀ z ∈ u, nameB z = true) ∧ u.Nodup ∧ 2 ≤ u.length ∧ u.length ≤ 22 ∧ 0 ≤ m ∧ m ≤ 12 ∧
  ∀ H' l (ls : List Ln), Same H H' → H' l = some (.lst ((ls.map lineT).map V.str)) → (∀ l ∈ ls, l.ok) → (ls.length : Int) = m → Q (.ref l) H'
theorem scTx : FnScope nTx pTx (defScope sTx) := ⟨rfl, rfl, rfl, by decide +kernel, rfl, by decide +kernel, by decide +kernel⟩
theorem ok_tx {f : Addr} {fd : FuncData} (F : Fun K "_law_text" "_law_text" sTx f fd) (T : Bi mg) (hst : mg "str" = none) (FD : FnE P w K mg base "_law_draw" ["_law_script", "_law_k"] 1 (spDraw K)) : FnOk P w K mg base CX0 2 f fd pTx (spTx K) := by
  refine F.ok scTx (fun vs H Q E h => ?_) (fun cdv A outer s H vs Q E hr h => ?_)
  · obtain ⟨a, NL, ns, m, u, rfl, _⟩ := h
    rfl
  · obtain ⟨a, NL, ns, m, u, rfl, hS, hD, hNL, hok, hnd, h2, h22, m0, m1, q⟩ := h
    refine ⟨_, pss_cons (ps_set (i := 3) scTx.nd rfl (Or.inl rfl) (pe_lst pa_nil))
      (pss_cons (ps_for PassesOwn.never rfl (pi_range1 rfl T.range (pa_c (pv 2) pa_nil)) (pg_name (i := 4) scTx.nd rfl (Or.inl rfl))
        (pss_cons (ps_set (i := 5) scTx.nd rfl (Or.inl rfl) (pe_fc FD hr (pa_c (pv 0) (pa_c (pe_op op_add pe_int (pv 4)) pa_nil))))
        (pss_cons (ps_set (i := 6) scTx.nd rfl (Or.inl rfl) (pe_op op_mod (pv 5) (pe_callB call_len_seq rfl T.len bLen (pa_c (pv 1) pa_nil))))
        (pss_cons (ps_set (i := 7) scTx.nd rfl (Or.inl rfl) (pe_op op_mod (pe_op op_add (pe_op op_add (pv 6) pe_int) (pe_op op_mod (pe_op op_fdiv (pv 5) pe_int) (pe_op op_sub (pe_callB call_len_seq rfl T.len bLen (pa_c (pv 1) pa_nil)) pe_int))) (pe_callB call_len_seq rfl T.len bLen (pa_c (pv 1) pa_nil))))
        (pss_cons (ps_set (i := 8) scTx.nd rfl (Or.inl rfl) (pe_op op_add_str (pe_op op_add_str (pe_ix ix_list (pv 1) (pv 6) (fun _ _ => rfl)) pe_str) (pe_ix ix_list (pv 1) (pv 7) (fun _ _ => rfl))))
        (pss_cons (ps_if (pt_cmpR op_gt (pe_op op_mod (pe_op op_fdiv (pv 5) pe_int) pe_int) pe_int (nomark _)) (pss_one (ps_set (i := 8) scTx.nd rfl (Or.inl rfl) (pe_op op_add_str (pe_op op_add_str (pv 8) pe_str) (pe_callTy call_str_int rfl hst bStr (pa_c (pe_op op_mod (pe_op op_fdiv (pv 5) pe_int) pe_int) pa_nil))))) pss_nil)
        (pss_one (ps_expr (pe_bm PySem.F.plainAttrs_list PySem.F.slot_list_append PySem.F.type_list_append mt_append (pv 3) (pa_c (pv 8) pa_nil))))))))))
      (pss_one (ps_ret (pv 3)))), ?_⟩
    refine ⟨Nat.zero_le _, fun L hL => ?_⟩
    refine ⟨_, rfl, m, rfl, by omega, by omega, for_range (lo := 0) (n := m.toNat) (fun i σ G => (∃ v4 v5 v6 v7 v8, σ = [some (.ref a), some (.ref NL), some (.int m), some (.ref L), v4, v5, v6, v7, v8]) ∧ Same H G ∧ ∃ ls : List Ln, G L = some (.lst ((ls.map lineT).map V.str)) ∧ ls.length = i ∧ ∀ l ∈ ls, l.ok)
      ⟨⟨_, _, _, _, _, rfl⟩, same_new hL, [], upd_same, rfl, fun l h => by cases h⟩ (fun i σ G hi ⟨⟨v4, v5, v6, v7, v8, e⟩, sG, ls, hGL, hlen, hls⟩ => ?_) (fun σ G ⟨⟨v4, v5, v6, v7, v8, e⟩, sG, ls, hGL, hlen, hls⟩ => ?_)⟩
    · subst e
      rw [Int.zero_add]
      have hi' : (i : Int) < m := by omega
      have hSG : SqL K G a (ns.map V.int) := sG.seq hS
      have hNG := sG _ _ hNL
      refine ⟨_, rfl, _, rfl, _, _, rfl, rfl, a, ns, _, rfl, hSG, hD, by omega, by omega, ?_⟩
      dsimp only [gName]
      have nb0 := draw_nn ns (100 + (i : Int))
      generalize draw ns (100 + (i : Int)) = nb at nb0
      have o0 := mod_lo (n := nb) (p := (u.length : Int)) (by omega)
      have o1 := mod_hi (n := nb) (p := (u.length : Int)) (by omega)
      refine ⟨_, rfl, _, rfl, NL, _, rfl, .inl (SqL.of hNG), _, _, rfl, rfl, (by show (0 : Int) < ((u.map V.str).length : Int); rw [List.length_map]; omega), ?_⟩
      dsimp only [gName]
      rw [List.length_map]
      obtain ⟨o, ho⟩ : ∃ o : Nat, (o : Int) = nb % (u.length : Int) := ⟨(nb % (u.length : Int)).toNat, by omega⟩
      rw [← ho] at o0 o1 ⊢
      have r0 := mod_lo (n := nb / 64) (p := (u.length : Int) - 1) (by omega)
      have r1 := mod_hi (n := nb / 64) (p := (u.length : Int) - 1) (by omega)
      have q0 := mod_lo (n := (o : Int) + 1 + nb / 64 % ((u.length : Int) - 1)) (p := (u.length : Int)) (by omega)
      have q1 := mod_hi (n := (o : Int) + 1 + nb / 64 % ((u.length : Int) - 1)) (p := (u.length : Int)) (by omega)
      have qne := oth_ne o0 o1 r0 r1
      refine ⟨_, rfl, _, _, rfl, rfl, _, rfl, _, _, rfl, rfl, ⟨by decide, by decide⟩, _, rfl, NL, _, rfl, .inl (SqL.of hNG), _, _, rfl, rfl, _, _, rfl, rfl, (by show (0 : Int) < ((u.map V.str).length : Int) - 1; rw [List.length_map]; omega), _, _, rfl, rfl, _, rfl, NL, _, rfl, .inl (SqL.of hNG), _, _, rfl, rfl, (by show (0 : Int) < ((u.map V.str).length : Int); rw [List.length_map]; omega), ?_⟩
      dsimp only [gName]
      rw [List.length_map]
      obtain ⟨o2, ho2⟩ : ∃ o2 : Nat, (o2 : Int) = ((o : Int) + 1 + nb / 64 % ((u.length : Int) - 1)) % (u.length : Int) := ⟨(((o : Int) + 1 + nb / 64 % ((u.length : Int) - 1)) % (u.length : Int)).toNat, by omega⟩
      rw [← ho2] at q0 q1 qne ⊢
      have c1 := List.getElem?_eq_getElem (show o < u.length by omega)
      have c2 := List.getElem?_eq_getElem (show o2 < u.length by omega)
      have d1 : u[o] ∈ u := List.getElem_mem _
      have d2 : u[o2] ∈ u := List.getElem_mem _
      have dne : u[o] ≠ u[o2] := fun e => qne (by have := nodup_ix hnd (by omega) (by omega) e; omega)
      generalize u[o] = A1 at c1 d1 dne
      generalize u[o2] = B1 at c2 d2 dne
      have cm : ∀ {k : Nat} {z : Str}, u[k]? = some z → (u.map V.str)[k]? = some (.str z) := fun e => by rw [List.getElem?_map, e]; rfl
      have k1 := name_ok (hok _ d1)
      have k2 := name_ok (hok _ d2)
      have s1' : (Str.ofString " ").length = 1 := sp_len
      refine ⟨_, rfl, _, rfl, NL, _, _, _, rfl, rfl, SqL.of hNG, atI_nat (cm c1), _, _, rfl, rfl, leMil (by omega), _, rfl, _, rfl, NL, _, _, _, rfl, rfl, SqL.of hNG, atI_nat (cm c2), _, _, rfl, rfl, leMil (by rw [len_app]; omega), ?_⟩
      have e0 : A1 ++ Str.ofString " " ++ B1 = lineT ⟨A1, B1, none⟩ := rfl
      have lok0 : (⟨A1, B1, none⟩ : Ln).ok := ⟨hok _ d1, hok _ d2, dne, fun n e => by cases e⟩
      have l21 := line_len lok0
      dsimp only [gName]
      rw [e0]
      have sz : ((ls.map lineT).map V.str).length < sizeLine := by rw [List.length_map, List.length_map, sizeLine_eq]; omega
      have t0 := mod_lo (n := nb / 8192) (p := 1000) (by decide)
      have t1 := mod_hi (n := nb / 8192) (p := 1000) (by decide)
      have app : ∀ l : Ln, l.ok → ∃ ls' : List Ln, (upd G L (.lst ((ls.map lineT).map V.str ++ [.str (lineT l)]))) L = some (.lst ((ls'.map lineT).map V.str)) ∧ ls'.length = i + 1 ∧ ∀ l ∈ ls', l.ok := fun l hl => by
        refine ⟨ls ++ [l], by rw [upd_same, List.map_append, List.map_append]; rfl, by rw [List.length_append, hlen]; rfl, fun x hx => ?_⟩
        rcases List.mem_append.mp hx with hx | hx
        · exact hls x hx
        · rw [List.mem_singleton.mp hx]; exact hl
      refine ⟨_, rfl, _, _, rfl, rfl, ⟨by decide, by decide⟩, _, _, rfl, rfl, (by show (0 : Int) < 4; decide), _, _, rfl, rfl, _, rfl, ite2 (fun _ => ?_) (fun _ => ?_)⟩
      · have lok : (⟨A1, B1, some (nb / 8192 % 1000)⟩ : Ln).ok := ⟨hok _ d1, hok _ d2, dne, fun n e => by cases e; exact ⟨t0, t1⟩⟩
        have k3 : 1 ≤ (Str.ofString (toString (nb / 8192 % 1000))).length ∧ (Str.ofString (toString (nb / 8192 % 1000))).length ≤ 3 := hour_len t0 t1
        refine ⟨_, rfl, _, _, rfl, rfl, leMil (by omega), _, rfl, _, _, rfl, rfl, ⟨by decide, by decide⟩, _, _, rfl, rfl, (by show (0 : Int) < 1000; decide), _, rfl, Nat.lt_of_le_of_lt (Nat.log2_le_self _) (by omega), _, _, rfl, rfl, leMil (by rw [len_app]; omega), ?_⟩
        dsimp only [gName]
        rw [show lineT ⟨A1, B1, none⟩ ++ Str.ofString " " ++ Str.ofString (toString (nb / 8192 % 1000)) = lineT ⟨A1, B1, some (nb / 8192 % 1000)⟩ from by rw [← e0]; exact (line_h (l := ⟨A1, B1, some (nb / 8192 % 1000)⟩) rfl).symm]
        exact ⟨_, rfl, .inl ⟨rfl, _, SqL.of hGL⟩, _, rfl, L, _, _, rfl, rfl, hGL, sz, ⟨_, _, _, _, _, rfl⟩, sG.wr hL, app _ lok⟩
      · exact ⟨_, rfl, .inl ⟨rfl, _, SqL.of hGL⟩, _, rfl, L, _, _, rfl, rfl, hGL, sz, ⟨_, _, _, _, _, rfl⟩, sG.wr hL, app _ lok0⟩
    · subst e
      exact ⟨_, rfl, q G L ls sG hGL hls (by omega)⟩
end
end My
set_option Elab.async false
set_option linter.all false
set_option maxRecDepth 100000
set_option maxHeartbeats 1000000
namespace My
open PySem L2 Tx
section
variable {P : Program} {w : World} {K : PySem.W.Frag} {mg : Str → Option Value} {base : Heap}
abbrev sRi : Stmt := top 79
abbrev nRi : List Str := ["_law_many", "_law_rows", "_law_letters", "_law_words", "_law_k", "_law_lines"]
def spRi : Sp := fun vs H Q _ => ∃ m r : Nat, vs = [.int (m : Int), .int (r : Int)] ∧ 2 ≤ m ∧ m ≤ 62 ∧ r ≤ 300 ∧ ∀ H', Same H H' → Q (.str (txt (ringLs m r))) H'
theorem scRi : FnScope nRi ["_law_many", "_law_rows"] (defScope sRi) := ⟨rfl, rfl, rfl, by decide +kernel, rfl, by decide +kernel, by decide +kernel⟩
theorem lett_nat {k : Nat} (h : k < 26) : atI letters.cps.toList (k : Int) = some (97 + k) := atI_nat (lett_at ⟨k, h⟩).1
theorem ok_ri {f : Addr} {fd : FuncData} (F : Fun K "_law_ring" "_law_ring" sRi f fd) (T : Bi mg) : FnOk P w K mg base CX0 1 f fd ["_law_many", "_law_rows"] spRi := by
  refine F.ok scRi (fun vs H Q E h => ?_) (fun cdv A outer s H vs Q E hr h => ?_)
  · obtain ⟨m, r, rfl, _⟩ := h
    rfl
  · obtain ⟨m, r, rfl, h2, h62, h300, q⟩ := h
    refine ⟨_, pss_cons (ps_set (i := 2) scRi.nd rfl (Or.inl rfl) pe_str)
      (pss_cons (ps_set (i := 3) scRi.nd rfl (Or.inl rfl) (pe_lst pa_nil))
      (pss_cons (ps_for PassesOwn.never rfl (pi_range1 rfl T.range (pa_c (pv 0) pa_nil)) (pg_name (i := 4) scRi.nd rfl (Or.inl rfl))
        (pss_one (ps_expr (pe_bm PySem.F.plainAttrs_list PySem.F.slot_list_append PySem.F.type_list_append mt_append (pv 3) (pa_c (pe_op op_add_str (pe_op op_add_str (pe_ix ix_str (pv 2) (pe_op op_mod (pv 4) pe_int) (fun _ _ => rfl)) (pe_ix ix_str (pv 2) (pe_op op_fdiv (pv 4) pe_int) (fun _ _ => rfl))) pe_str) pa_nil)))))
      (pss_cons (ps_set (i := 5) scRi.nd rfl (Or.inl rfl) (pe_lst pa_nil))
      (pss_cons (ps_for PassesOwn.never rfl (pi_range1 rfl T.range (pa_c (pv 1) pa_nil)) (pg_name (i := 4) scRi.nd rfl (Or.inl rfl))
        (pss_one (ps_expr (pe_bm PySem.F.plainAttrs_list PySem.F.slot_list_append PySem.F.type_list_append mt_append (pv 5) (pa_c (pe_op op_add_str (pe_op op_add_str (pe_ix ix_list (pv 3) (pe_op op_mod (pv 4) (pv 0)) (fun _ _ => rfl)) pe_str) (pe_ix ix_list (pv 3) (pe_op op_mod (pe_op op_add (pv 4) pe_int) (pv 0)) (fun _ _ => rfl))) pa_nil)))))
      (pss_one (ps_ret (pe_bm PySem.F.plainAttrs_str PySem.F.slot_str_join PySem.F.type_str_join mt_join pe_str (pa_c (pv 5) pa_nil)))))))), ?_⟩
    refine ⟨Nat.zero_le _, fun W hW => ?_⟩
    refine ⟨_, rfl, (m : Int), rfl, by omega, by omega, for_range (lo := 0) (n := ((m : Nat) : Int).toNat) (fun i σ G => (∃ v4, σ = [some (.int (m : Int)), some (.int (r : Int)), some (.str letters), some (.ref W), v4, none]) ∧ Same H G ∧ G W = some (.lst (((List.range i).map ringW).map V.str)))
      ⟨⟨_, rfl⟩, same_new hW, upd_same⟩ (fun i σ G hi ⟨⟨v4, e⟩, sG, hGW⟩ => ?_) (fun σ G ⟨⟨v4, e⟩, sG, hGW⟩ => ?_)⟩
    · subst e
      rw [Int.zero_add]
      have hi' : i < m := by omega
      have e1 : (i : Int) % 26 = ((i % 26 : Nat) : Int) := by omega
      have e2 : (i : Int) / 26 = ((i / 26 : Nat) : Int) := by omega
      refine ⟨_, rfl, .inl ⟨rfl, _, SqL.of hGW⟩, _, rfl, _, rfl, _, _, rfl, rfl, (by show (0 : Int) < 26; decide), letters, _, 97 + i % 26, rfl, rfl, leMil (by decide +kernel), by rw [e1]; exact lett_nat (by omega), _, rfl, _, rfl, _, _, rfl, rfl, ⟨by decide, by decide⟩, letters, _, 97 + i / 26, rfl, rfl, leMil (by decide +kernel), by rw [e2]; exact lett_nat (by omega), _, _, rfl, rfl, leMil (show 1 + 1 ≤ 100000 by decide), _, _, rfl, rfl, leMil (by rw [len_app]; show 1 + 1 + (Str.ofString "x").length ≤ 100000; rw [show (Str.ofString "x").length = 1 from by decide +kernel]; decide), W, _, _, rfl, rfl, hGW, by rw [List.length_map, List.length_map, List.length_range, sizeLine_eq]; omega, ⟨_, rfl⟩, sG.wr hW, ?_⟩
      rw [upd_same, List.range_succ, List.map_append, List.map_append]
      rfl
    · subst e
      change G W = some (.lst (((List.range m).map ringW).map V.str)) at hGW
      refine ⟨Nat.zero_le _, fun L hL => ?_⟩
      have hWL : W ≠ L := fun z => by rw [← z, hGW] at hL; cases hL
      have hGW1 : ∀ G1, Same G G1 → G1 W = some (.lst (((List.range m).map ringW).map V.str)) := fun G1 s => s _ _ hGW
      refine ⟨_, rfl, (r : Int), rfl, by omega, by omega, for_range (lo := 0) (n := ((r : Nat) : Int).toNat) (fun i σ G1 => (∃ v4, σ = [some (.int (m : Int)), some (.int (r : Int)), some (.str letters), some (.ref W), v4, some (.ref L)]) ∧ Same G G1 ∧ G1 L = some (.lst (((ringLs m i).map lineT).map V.str)))
        ⟨⟨_, rfl⟩, same_new hL, upd_same⟩ (fun i σ G1 hi ⟨⟨v4, e⟩, s1, hGL⟩ => ?_) (fun σ G1 ⟨⟨v4, e⟩, s1, hGL⟩ => ?_)⟩
      · subst e
        rw [Int.zero_add]
        have hi' : i < r := by omega
        have j1 := Nat.mod_lt i (show 0 < m by omega)
        have j2 := Nat.mod_lt (i + 1) (show 0 < m by omega)
        have e1 : (i : Int) % (m : Int) = ((i % m : Nat) : Int) := by push_cast; rfl
        have e2 : ((i : Int) + 1) % (m : Int) = (((i + 1) % m : Nat) : Int) := by push_cast; rfl
        have ga : ∀ j, j < m → (((List.range m).map ringW).map V.str)[j]? = some (.str (ringW j)) := fun j hj => by rw [List.getElem?_map, List.getElem?_map, List.getElem?_range hj]; rfl
        have lw : ∀ j, (ringW j).length = 3 := fun j => rfl
        have s1' : (Str.ofString " ").length = 1 := sp_len
        refine ⟨_, rfl, .inl ⟨rfl, _, SqL.of hGL⟩, _, rfl, _, rfl, _, rfl, _, _, rfl, rfl, (by show (0 : Int) < (m : Int); omega), W, _, _, _, rfl, rfl, SqL.of (hGW1 _ s1), by rw [e1]; exact atI_nat (ga _ j1), _, _, rfl, rfl, leMil (by rw [lw]; omega), _, rfl, _, rfl, _, _, rfl, rfl, _, rfl, _, _, rfl, rfl, (by show (0 : Int) < (m : Int); omega), W, _, _, _, rfl, rfl, SqL.of (hGW1 _ s1), by rw [e2]; exact atI_nat (ga _ j2), _, _, rfl, rfl, leMil (by rw [len_app, lw, lw]; omega), L, _, _, rfl, rfl, hGL, by rw [List.length_map, List.length_map, ring_len, sizeLine_eq]; omega, ⟨_, rfl⟩, s1.wr hL, ?_⟩
        rw [upd_same]
        unfold ringLs
        rw [List.range_succ, List.map_append, List.map_append, List.map_append]
        rfl
      · subst e
        change G1 L = some (.lst (((ringLs m r).map lineT).map V.str)) at hGL
        have hsum := sum_lines (ringLs_ok (n := r) h2 h62)
        rw [ring_len] at hsum
        exact ⟨rfl, _, rfl, nln, L, (ringLs m r).map lineT, rfl, rfl, SqL.of hGL, (by decide +kernel), by rw [List.length_map, ring_len]; omega, q G1 (Same.trans sG s1)⟩
end
end My
set_option Elab.async false
set_option linter.all false
set_option maxRecDepth 100000
set_option maxHeartbeats 1000000
namespace My
open PySem L2 Tx
def dispS : Expr → List Str
  | .List es _ => (es.map strC).map (·.1)
  | .BinOp _ _ e _ => dispS e
  | _ => []
def bad1 : List Str := dispS (retX (stAt 77 0))
def bad2 : List Str := dispS (retX (stAt 77 1))
def bad3 : List Str := dispS (retX (stAt 77 2))
def bad4 : List Str := dispS (retX (stAt 77 3))
def badL : List Str := bad1 ++ bad2 ++ bad3 ++ bad4
theorem bad_all : badL.all (fun b => !decide (10 ∈ b.cps.toList) && !meetB (Txt.split b sp) && decide (b.length ≤ 20)) = true := by decide +kernel
theorem bad_len : badL.length = 35 := by decide +kernel
theorem bad_ok {b : Str} (h : b ∈ badL) : 10 ∉ b.cps.toList ∧ meetB (Txt.split b sp) = false ∧ b.length ≤ 20 := by
  have := List.all_eq_true.mp bad_all b h
  simp only [Bool.and_eq_true, Bool.not_eq_true', decide_eq_false_iff_not, decide_eq_true_eq] at this
  exact ⟨this.1.1, this.1.2, this.2⟩
section
variable {P : Program} {w : World} {K : PySem.W.Frag} {mg : Str → Option Value} {base : Heap}
abbrev sBl : Stmt := top 77
def spBl : Sp := fun vs H Q _ => vs = [] ∧ ∀ H' l, Same H H' → H' l = some (.lst (badL.map V.str)) → Q (.ref l) H'
theorem scBl : FnScope ["_law_lines"] [] (defScope sBl) := ⟨rfl, rfl, rfl, by decide +kernel, rfl, by decide +kernel, by decide +kernel⟩
theorem ok_bl {f : Addr} {fd : FuncData} (F : Fun K "_law_bad_lines" "_law_bad_lines" sBl f fd) : FnOk P w K mg base CX0 1 f fd [] spBl := by
  refine F.ok scBl (fun vs H Q E h => ?_) (fun cdv A outer s H vs Q E hr h => ?_)
  · obtain ⟨rfl, _⟩ := h
    rfl
  · obtain ⟨rfl, q⟩ := h
    obtain ⟨es1, es2, es3, es4, a1, a2, a3, b1, b2, b3, b4, b5, c1, c2, c3, c4, c5, d1, d2, d3, d4, hB, g1, f1, g2, f2, g3, f3, g4, f4⟩ : ∃ (es1 es2 es3 es4 : List Expr) (a1 a2 a3 b1 b2 b3 b4 b5 c1 c2 c3 c4 c5 d1 d2 d3 d4 : Pos),
        defBody sBl = [.Assign [.Name "_law_lines" a1] (.List es1 a2) a3, .Assign [.Name "_law_lines" b1] (.BinOp (.Name "_law_lines" b2) .Add (.List es2 b3) b4) b5, .Assign [.Name "_law_lines" c1] (.BinOp (.Name "_law_lines" c2) .Add (.List es3 c3) c4) c5, .Return (some (.BinOp (.Name "_law_lines" d1) .Add (.List es4 d2) d3)) d4] ∧
        (es1.map strC).map mkC = es1 ∧ (es1.map strC).map (·.1) = bad1 ∧ (es2.map strC).map mkC = es2 ∧ (es2.map strC).map (·.1) = bad2 ∧ (es3.map strC).map mkC = es3 ∧ (es3.map strC).map (·.1) = bad3 ∧ (es4.map strC).map mkC = es4 ∧ (es4.map strC).map (·.1) = bad4 :=
      ⟨_, _, _, _, _, _, _, _, _, _, _, _, _, _, _, _, _, _, _, _, _, rfl, rfl, rfl, rfl, rfl, rfl, rfl, rfl, rfl⟩
    rw [hB]
    refine ⟨_, pss_cons (ps_set (i := 0) scBl.nd rfl (Or.inl rfl) (pe_lstS (pa_disp es1 g1 f1)))
      (pss_cons (ps_set (i := 0) scBl.nd rfl (Or.inl rfl) (pe_op op_catLS (pv 0) (pe_lstS (pa_disp es2 g2 f2))))
      (pss_cons (ps_set (i := 0) scBl.nd rfl (Or.inl rfl) (pe_op op_catLS (pv 0) (pe_lstS (pa_disp es3 g3 f3))))
      (pss_one (ps_ret (pe_op op_catLS (pv 0) (pe_lstS (pa_disp es4 g4 f4))))))), ?_⟩
    have l1 : bad1.length = 12 := by decide +kernel
    have l2 : bad2.length = 9 := by decide +kernel
    have l3 : bad3.length = 10 := by decide +kernel
    have l4 : bad4.length = 4 := by decide +kernel
    have q' : ∀ H' l, Same H H' → H' l = some (.lst (bad1.map V.str ++ bad2.map V.str ++ bad3.map V.str ++ bad4.map V.str)) → Q (.ref l) H' := fun H' l s h => q H' l s (by rw [h]; unfold badL; simp only [List.map_append])
    clear q
    have w1 : Nat.ble (bad1.map V.str).length 1000 = true := by rw [List.length_map, l1]; rfl
    have w2 : Nat.ble (bad2.map V.str).length 1000 = true := by rw [List.length_map, l2]; rfl
    have w3 : Nat.ble (bad3.map V.str).length 1000 = true := by rw [List.length_map, l3]; rfl
    have w4 : Nat.ble (bad4.map V.str).length 1000 = true := by rw [List.length_map, l4]; rfl
    refine ⟨w1, fun p1 H1 s1 h1 => ?_⟩
    refine ⟨_, rfl, w2, fun p2 H2 s2 h2 => ⟨p1, p2, _, _, rfl, rfl, s2 _ _ h1, h2, by rw [List.length_map, List.length_map]; omega, fun p3 H3 s3 h3 => ?_⟩⟩
    refine ⟨_, rfl, w3, fun p4 H4 s4 h4 => ⟨p3, p4, _, _, rfl, rfl, s4 _ _ h3, h4, by rw [List.length_append, List.length_map, List.length_map, List.length_map]; omega, fun p5 H5 s5 h5 => ?_⟩⟩
    refine ⟨_, rfl, w4, fun p6 H6 s6 h6 => ⟨p5, p6, _, _, rfl, rfl, s6 _ _ h5, h6, by rw [List.length_append, List.length_append, List.length_map, List.length_map, List.length_map, List.length_map]; omega, fun p7 H7 s7 h7 => ?_⟩⟩
    exact q' H7 p7 (Same.trans s1 (Same.trans s2 (Same.trans s3 (Same.trans s4 (Same.trans s5 (Same.trans s6 s7)))))) h7
end
end My
set_option Elab.async false
set_option linter.all false
set_option maxRecDepth 100000
set_option maxHeartbeats 1000000
namespace My
open PySem L2 Tx
theorem RfZ.sam {K : PySem.W.Frag} {H : Hp} {l l' : Addr} {bT bG : Bool} {m : Int} (a : RfZ H l bT bG m) (b : RfZ H l' bT bG m) : ∃ xs ys : List V, SqL K H l xs ∧ SqL K H l' ys ∧ xs.length = ys.length ∧ ∀ (i : Nat) u v, xs[i]? = some u → ys[i]? = some v → Sam K H 6 u v := by
  obtain ⟨s, h1, h2⟩ := a
  obtain ⟨s', h1', h2'⟩ := b
  refine ⟨_, _, SqL.of h1, SqL.of h1', rfl, fun i u v hu hv => ?_⟩
  match i, hu, hv with
  | 0, hu, hv =>
    cases hu; cases hv
    refine .inr ⟨s, s', _, _, rfl, rfl, .inr ⟨SqL.of h2, SqL.of h2'⟩, rfl, fun j x y hx hy => .inl ?_⟩
    rw [hx] at hy
    cases hy
    match j, hx with
    | 0, hx => cases hx; exact ⟨rfl, trivial⟩
    | 1, hx => cases hx; exact ⟨rfl, trivial⟩
    | 2, hx => cases hx; exact ⟨rfl, trivial⟩
    | 3, hx => cases hx; exact ⟨rfl, trivial⟩
  | 1, hu, hv => cases hu; cases hv; exact .inl ⟨rfl, trivial⟩
theorem RfZ.keep {H H' : Hp} {l : Addr} {bT bG : Bool} {m : Int} (a : RfZ H l bT bG m) (s : Same H H') : RfZ H' l bT bG m := let ⟨x, h1, h2⟩ := a; ⟨x, s _ _ h1, s _ _ h2⟩
theorem ne_no {a b : Int} {A B : Prop} (e : a = b) (h : B) : if (!decide (V.int a = V.int b)) = true then A else B := by
  subst e
  rw [decide_eq_true rfl]
  exact iteF h
def Gt (mm nn : Nat) (most : Int) : Prop := (mm = nn ∧ 59 ≤ mm ∧ mm ≤ 62 ∧ most = 60) ∨ (mm = 20 ∧ 199 ≤ nn ∧ nn ≤ 202 ∧ most = 200)
theorem Gt.b {mm nn : Nat} {most : Int} (h : Gt mm nn most) : 2 ≤ mm ∧ mm ≤ 62 ∧ mm ≤ nn ∧ nn ≤ 202 := by unfold Gt at h; omega
theorem Gt.grt {mm nn : Nat} {most : Int} (h : Gt mm nn most) (hm : most < (nn : Int)) : Grt (.str (txt (ringLs mm nn))) most := by
  obtain ⟨b1, b2, b3, b4⟩ := h.b
  refine ⟨_, rfl, ringLs_ok b1 b2, by rw [ring_len]; omega, ?_⟩
  rw [ring_uniq b1 b2 b3, ring_len]
  unfold Gt at h
  omega
theorem great_bad {mm nn : Nat} {most : Int} (h : Gt mm nn most) {b : Str} (hb : b ∈ badL) : allM (txt (ringLs mm nn) ++ nln ++ b) = false ∧ (txt (ringLs mm nn) ++ nln ++ b).length ≤ 90000 := by
  obtain ⟨b1, b2, b3, b4⟩ := h.b
  obtain ⟨c1, c2, c3⟩ := bad_ok hb
  have hok := ringLs_ok (n := nn) b1 b2
  have hl := txt_len hok
  rw [ring_len] at hl
  have n1 : nln.length = 1 := by decide +kernel
  have ne : (ringLs mm nn).map lineT ≠ [] := fun e => by
    have := congrArg List.length e
    rw [List.length_map, ring_len] at this
    simp only [List.length_nil] at this
    omega
  have e : txt (ringLs mm nn) ++ nln ++ b = Str.join nln ((ringLs mm nn).map lineT ++ [b]) := by
    unfold txt
    rw [nln_eq]
    exact (join_snoc 10 b _ ne).symm
  refine ⟨?_, by rw [len_app, len_app]; omega⟩
  rw [e]
  refine line_bad (b := b) (fun p hp => ?_) (List.mem_append.mpr (.inr (List.mem_singleton.mpr rfl))) c2 ?_
  · rcases List.mem_append.mp hp with hp | hp
    · obtain ⟨l, hm, rfl⟩ := List.mem_map.mp hp
      exact line_free (hok l hm)
    · rw [List.mem_singleton.mp hp]; exact c1
  · rw [← e, len_app, len_app]
    omega
section
variable {P : Program} {w : World} {K : PySem.W.Frag} {mg : Str → Option Value} {base : Heap}
abbrev sGr : Stmt := top 80
def spGr (K : PySem.W.Frag) : Sp := fun vs H Q _ => ∃ (a : Addr) (ns : List Int), vs = [.ref a] ∧ SqL K H a (ns.map V.int) ∧ Dr ns ∧ ∀ H' l mm nn most, Same H H' → H' l = some (.lst [.str (txt (ringLs mm nn)), .int (nn : Int), .int most]) → Gt mm nn most → Q (.ref l) H'
theorem scGr : FnScope ["_law_script", "_law_number", "_law_many"] ["_law_script"] (defScope sGr) := ⟨rfl, rfl, rfl, by decide +kernel, rfl, by decide +kernel, by decide +kernel⟩
theorem ok_gr {f : Addr} {fd : FuncData} (F : Fun K "_law_great" "_law_great" sGr f fd) (FD : FnE P w K mg base "_law_draw" ["_law_script", "_law_k"] 1 (spDraw K)) (FRi : FnE P w K mg base "_law_ring" ["_law_many", "_law_rows"] 1 spRi) : FnOk P w K mg base CX0 2 f fd ["_law_script"] (spGr K) := by
  refine F.ok scGr (fun vs H Q E h => ?_) (fun cdv A outer s H vs Q E hr h => ?_)
  · obtain ⟨a, ns, rfl, _⟩ := h
    rfl
  · obtain ⟨a, ns, rfl, hS, hD, q⟩ := h
    refine ⟨_, pss_cons (ps_set (i := 1) scGr.nd rfl (Or.inl rfl) (pe_fc FD hr (pa_c (pv 0) (pa_c pe_int pa_nil))))
      (pss_cons (ps_if (pt_cmpR op_eq (pe_op op_mod (pv 1) pe_int) pe_int (nomark _))
        (pss_cons (ps_set (i := 2) scGr.nd rfl (Or.inl rfl) (pe_op op_add pe_int (pe_op op_mod (pe_op op_fdiv (pv 1) pe_int) pe_int))) (pss_one (ps_ret (pe_lstS (pa_c (pe_fc FRi hr (pa_c (pv 2) (pa_c (pv 2) pa_nil))) (pa_c (pv 2) (pa_c pe_int pa_nil))))))) pss_nil)
      (pss_cons (ps_set (i := 2) scGr.nd rfl (Or.inl rfl) (pe_op op_add pe_int (pe_op op_mod (pe_op op_fdiv (pv 1) pe_int) pe_int))) (pss_one (ps_ret (pe_lstS (pa_c (pe_fc FRi hr (pa_c pe_int (pa_c (pv 2) pa_nil))) (pa_c (pv 2) (pa_c pe_int pa_nil)))))))), ?_⟩
    refine ⟨_, rfl, a, ns, _, rfl, hS, hD, by decide, by decide, ?_⟩
    dsimp only [gName]
    generalize draw ns 3 = nb
    have m0 := mod_lo (n := nb / 2) (p := 4) (by decide)
    have m1 := mod_hi (n := nb / 2) (p := 4) (by decide)
    refine ⟨_, rfl, _, _, rfl, rfl, (by show (0 : Int) < 2; decide), rfl, _, rfl, ite2 (fun _ => ?_) (fun _ => ?_)⟩
    · refine ⟨_, rfl, _, _, rfl, rfl, ⟨by decide, by decide⟩, _, _, rfl, rfl, (by show (0 : Int) < 4; decide), _, _, rfl, rfl, ?_⟩
      dsimp only [gName]
      obtain ⟨M, hM⟩ : ∃ M : Nat, (M : Int) = 59 + nb / 2 % 4 := ⟨(59 + nb / 2 % 4).toNat, by omega⟩
      rw [← hM]
      exact ⟨_, rfl, _, rfl, M, M, rfl, by omega, by omega, by omega, fun H1 s1 => ⟨_, rfl, rfl, fun l H2 s2 hl => q H2 l M M 60 (Same.trans s1 s2) hl (.inl ⟨rfl, by omega, by omega, rfl⟩)⟩⟩
    · refine ⟨_, rfl, _, _, rfl, rfl, ⟨by decide, by decide⟩, _, _, rfl, rfl, (by show (0 : Int) < 4; decide), _, _, rfl, rfl, ?_⟩
      dsimp only [gName]
      obtain ⟨M, hM⟩ : ∃ M : Nat, (M : Int) = 199 + nb / 2 % 4 := ⟨(199 + nb / 2 % 4).toNat, by omega⟩
      rw [← hM]
      exact ⟨_, rfl, 20, M, rfl, by omega, by omega, by omega, fun H1 s1 => ⟨_, rfl, rfl, fun l H2 s2 hl => q H2 l 20 M 200 (Same.trans s1 s2) hl (.inr ⟨rfl, by omega, by omega, rfl⟩)⟩⟩
abbrev sBk : Stmt := top 81
abbrev nBk : List Str := ["_law_script", "_law_bad", "_law_great_here", "_law_many", "_law_most", "_law_refused_here", "_law_whole", "_law_line"]
def spBk (K : PySem.W.Frag) : Sp := fun vs H Q _ => ∃ (a lb : Addr) (ns : List Int), vs = [.ref a, .ref lb] ∧ SqL K H a (ns.map V.int) ∧ Dr ns ∧ H lb = some (.lst (badL.map V.str)) ∧ ∀ H', Same H H' → Q (.bl true) H'
theorem scBk : FnScope nBk ["_law_script", "_law_bad"] (defScope sBk) := ⟨rfl, rfl, rfl, by decide +kernel, rfl, by decide +kernel, by decide +kernel⟩
theorem ok_bk {f : Addr} {fd : FuncData} (F : Fun K "_law_bounds_kept" "_law_bounds_kept" sBk f fd) (T : Bi mg) (FD : FnE P w K mg base "_law_draw" ["_law_script", "_law_k"] 7 (spDraw K)) (FRi : FnE P w K mg base "_law_ring" ["_law_many", "_law_rows"] 7 spRi) (FG : FnE P w K mg base "_law_great" ["_law_script"] 7 (spGr K))
    (FRf : FnE P w K mg base "_law_refused" ["_law_thing", "_law_whole"] 7 spRf) (FR : FnE P w K mg base "read" ["text"] 7 spRd) : FnOk P w K mg base CX0 8 f fd ["_law_script", "_law_bad"] (spBk K) := by
  refine F.ok scBk (fun vs H Q E h => ?_) (fun cdv A outer s H vs Q E hr h => ?_)
  · obtain ⟨a, lb, ns, rfl, _⟩ := h
    rfl
  · obtain ⟨a, lb, ns, rfl, hS, hD, hlb, q⟩ := h
    obtain ⟨tR, hR, rest⟩ : ∃ t, PSs (cxOf CX0 P w K mg base nBk "_law_bounds_kept" (defScope sBk) f cdv A outer s H E).nox ((defBody sBk).drop 4) t ∧ ∀ (mm nn : Nat) (most : Int) (R : Addr) v6 (G : Hp), Gt mm nn most → SqL K G a (ns.map V.int) → G lb = some (.lst (badL.map V.str)) → Same H G →
        t { nx := fun _ H' => Q .non H', rt := Q } [some (.ref a), some (.ref lb), some (.str (txt (ringLs mm nn))), some (.int (nn : Int)), some (.int most), some (.ref R), v6, none] G := by
      refine ⟨_, pss_cons (ps_set (i := 7) scBk.nd rfl (Or.inl rfl) (pe_ix ix_list (pv 1) (pe_op op_mod (pe_fc FD hr (pa_c (pv 0) (pa_c pe_int pa_nil))) (pe_callB call_len_seq rfl T.len bLen (pa_c (pv 1) pa_nil))) (fun _ _ => rfl)))
      (pss_cons (ps_if (pt_cmpR (op_neD hr) (pe_fc FRf hr (pa_c (pe_op op_add_str (pe_op op_add_str (pv 2) pe_str) (pv 7)) (pa_c pe_bl pa_nil))) (pe_lstS (pa_c (pe_lstS (pa_c pe_bl (pa_c pe_bl (pa_c pe_bl (pa_c pe_bl pa_nil))))) (pa_c pe_int pa_nil))) (nomark _)) (pss_one (ps_ret pe_bl)) pss_nil)
      (pss_one (ps_ret (pe_cmpR (op_eqD hr) (pe_fc FRf hr (pa_c (pe_fc FRi hr (pa_c pe_int (pa_c pe_int pa_nil))) (pa_c pe_bl pa_nil))) (pe_lstS (pa_c (pe_lstS (pa_c pe_bl (pa_c pe_bl (pa_c pe_bl (pa_c pe_bl pa_nil))))) (pa_c pe_int pa_nil))) (nomark _))))), fun mm nn most R v6 G gt hSG hlbG sG => ?_⟩
      have bl := bad_len
      have j0 := mod_lo (n := draw ns 7) (p := 35) (by decide)
      have j1 := mod_hi (n := draw ns 7) (p := 35) (by decide)
      obtain ⟨j, hj⟩ : ∃ j : Nat, (j : Int) = draw ns 7 % 35 := ⟨(draw ns 7 % 35).toNat, by omega⟩
      have ll : ((badL.map V.str).length : Int) = 35 := by rw [List.length_map, bl]; rfl
      have hc := List.getElem?_eq_getElem (show j < badL.length by omega)
      have hm : badL[j] ∈ badL := List.getElem_mem _
      generalize badL[j] = b at hc hm
      have hat : atI (badL.map V.str) (draw ns 7 % ((badL.map V.str).length : Int)) = some (.str b) := by
        rw [ll, ← hj]
        exact atI_nat (by rw [List.getElem?_map, hc]; rfl)
      obtain ⟨gb1, gb2⟩ := great_bad gt hm
      have hl := txt_len (ringLs_ok (n := nn) gt.b.1 gt.b.2.1)
      rw [ring_len] at hl
      have hn202 := gt.b.2.2.2
      have n1 : (Str.ofString "\n").length = 1 := by decide +kernel
      have hb20 := (bad_ok hm).2.2
      refine ⟨_, rfl, _, rfl, a, ns, _, rfl, hSG, hD, by decide, by decide, _, rfl, lb, _, rfl, .inl (SqL.of hlbG), _, _, rfl, rfl, (by show (0 : Int) < ((badL.map V.str).length : Int); rw [ll]; decide), lb, _, _, .str b, rfl, rfl, SqL.of hlbG, hat, ?_⟩
      refine ⟨_, rfl, _, _, rfl, rfl, leMil (by omega), _, rfl, _, _, rfl, rfl, leMil (by rw [len_app]; omega), _, false, rfl, .inl ⟨.inr (.inr (.inr (.inr (.inr (.inr ⟨_, rfl, gb2, gb1⟩))))), fun G2 l2 s2 rz => ?_⟩⟩
      refine ⟨rfl, fun r3 G3 s3 hr3 => ⟨rfl, fun R4 G4 s4 hR4 => ?_⟩⟩
      obtain ⟨xs, ys, x1, x2, x3, x4⟩ := RfZ.sam (K := K) ((rz.keep s3).keep s4) (⟨r3, hR4, s4 _ _ hr3⟩ : RfZ G4 R4 true false 0)
      refine ⟨l2, R4, xs, ys, rfl, rfl, .inr ⟨x1, x2⟩, x3, x4, _, rfl, iteF ?_⟩
      have s04 := Same.trans sG (Same.trans s2 (Same.trans s3 s4))
      refine ⟨61, 201, rfl, by decide, by decide, by decide, fun G5 s5 => ?_⟩
      have g61 : Grt (.str (txt (ringLs 61 201))) 60 := ⟨_, rfl, ringLs_ok (by decide) (by decide), by rw [ring_len]; decide, .inl ⟨by rw [ring_uniq (by decide) (by decide) (by decide)]; decide, rfl⟩⟩
      refine ⟨_, false, rfl, .inr ⟨60, g61, fun G6 l6 s6 rz6 => ?_⟩⟩
      refine ⟨rfl, fun r7 G7 s7 hr7 => ⟨rfl, fun R8 G8 s8 hR8 => ?_⟩⟩
      obtain ⟨xs, ys, x1, x2, x3, x4⟩ := RfZ.sam (K := K) ((rz6.keep s7).keep s8) (⟨r7, hR8, s8 _ _ hr7⟩ : RfZ G8 R8 false true 60)
      exact ⟨l6, R8, xs, ys, rfl, rfl, .inr ⟨x1, x2⟩, x3, x4, q G8 (Same.trans s04 (Same.trans s5 (Same.trans s6 (Same.trans s7 s8))))⟩
    refine ⟨_, pss_cons (ps_asg (pe_fc FG hr (pa_c (pv 0) pa_nil)) (pg_lst rfl (pgs_cons (pg_name (i := 2) scBk.nd rfl (Or.inl rfl)) (pgs_cons (pg_name (i := 3) scBk.nd rfl (Or.inl rfl)) (pgs_cons (pg_name (i := 4) scBk.nd rfl (Or.inl rfl)) pgs_nil)))))
      (pss_cons (ps_set (i := 5) scBk.nd rfl (Or.inl rfl) (pe_lstS (pa_c (pe_lstS (pa_c pe_bl (pa_c pe_bl (pa_c pe_bl (pa_c pe_bl pa_nil))))) (pa_c (pv 4) pa_nil))))
      (pss_cons (ps_for PassesOwn.never rfl (pi_list (pe_lstS (pa_c pe_bl (pa_c pe_bl pa_nil)))) (pg_name (i := 6) scBk.nd rfl (Or.inl rfl))
        (pss_one (ps_if (PW.pt (pw_and (pt_cmpR op_gt (pv 3) (pv 4) (nomark _)) (pw_and1 (pt_cmpR (op_neD hr) (pe_fc FRf hr (pa_c (pv 2) (pa_c (pv 6) pa_nil))) (pv 5) (nomark _))))) (pss_one (ps_ret pe_bl)) pss_nil)))
      (pss_cons (ps_if (PW.pt (pw_and (pt_cmpR op_le (pv 3) (pv 4) (nomark _)) (pw_and1 (pt_cmpR op_ne (pe_callB call_len_seq rfl T.len bLen (pa_c (pe_ix ix_tup (pe_fc FR hr (pa_c (pv 2) pa_nil)) pe_int (fun _ _ => rfl)) pa_nil)) (pv 3) (nomark _))))) (pss_one (ps_ret pe_bl)) pss_nil)
      hR))), ?_⟩
    refine ⟨_, rfl, a, ns, rfl, hS, hD, fun H1 l mm nn most s1 hl gt => ⟨l, _, rfl, SqL.of hl, rfl, _, _, rfl, _, _, rfl, _, _, rfl, rfl, ?_⟩⟩
    obtain ⟨b1, b2, b3, b4⟩ := gt.b
    refine ⟨rfl, fun r1 H2 s2 hr1 => ⟨_, rfl, rfl, fun R H3 s3 hR3 => ?_⟩⟩
    have RZ : RfZ H3 R false true most := ⟨r1, hR3, s3 _ _ hr1⟩
    refine ⟨rfl, fun lw H4 s4 hlw => ⟨lw, rfl, ⟨_, SqL.of hlw⟩, for_list (K := K) (a := lw) (xs := [.bl false, .bl true]) (fun i σ G => (∃ v6, σ = [some (.ref a), some (.ref lb), some (.str (txt (ringLs mm nn))), some (.int (nn : Int)), some (.int most), some (.ref R), v6, none]) ∧ Same H4 G)
      ⟨⟨_, rfl⟩, Same.refl _⟩ (fun i σ G _ ⟨_, sG⟩ => SqL.of (sG _ _ hlw)) (fun i x σ G hx ⟨⟨v6, e⟩, sG⟩ => ?_) (fun σ G ⟨⟨v6, e⟩, sG⟩ => ?_)⟩⟩
    · subst e
      obtain ⟨b, rfl⟩ : ∃ b, x = .bl b := by
        match i, hx with
        | 0, hx => cases hx; exact ⟨_, rfl⟩
        | 1, hx => cases hx; exact ⟨_, rfl⟩
      refine ⟨_, rfl, _, rfl, _, _, rfl, rfl, _, rfl, ite2 (fun h => ?_) (fun h => iteF ⟨⟨_, rfl⟩, sG⟩)⟩
      refine ⟨_, rfl, _, rfl, _, b, rfl, .inr ⟨most, gt.grt (of_decide_eq_true h), fun G2 l2 s5 rz => ?_⟩⟩
      obtain ⟨xs, ys, x1, x2, x3, x4⟩ := RfZ.sam (K := K) rz (RZ.keep (Same.trans s4 (Same.trans sG s5)))
      exact ⟨_, rfl, l2, R, xs, ys, rfl, rfl, .inr ⟨x1, x2⟩, x3, x4, _, rfl, iteF ⟨⟨_, rfl⟩, Same.trans sG s5⟩⟩
    · subst e
      have s0G : Same H G := Same.trans s1 (Same.trans s2 (Same.trans s3 (Same.trans s4 sG)))
      refine ⟨_, rfl, _, rfl, _, _, rfl, rfl, _, rfl, ite2 (fun h => ?_) (fun h => iteF (rest mm nn most R v6 G gt (s0G.seq hS) (s0G _ _ hlb) s0G))⟩
      have hle := of_decide_eq_true h
      have hgt := gt
      unfold Gt at hgt
      refine ⟨_, rfl, ringLs mm nn, rfl, ringLs_ok b1 b2, by rw [ring_len]; omega, by rw [ring_uniq b1 b2 b3]; omega, fun G2 p pn pe pt ph xs2 s5 Rz => ?_⟩
      have lh : ((lsH (ringLs mm nn)).map hV).length = nn := by unfold lsH; rw [List.length_map, List.length_map, ring_len]
      refine ⟨p, _, 2, _, rfl, rfl, SqT.of Rz.e0, atI_nat (j := 2) rfl, ph, _, rfl, .inr (SqT.of Rz.e5), _, rfl, rfl, _, rfl, ?_⟩
      rw [lh]
      have s0G2 := Same.trans s0G s5
      exact ne_no rfl (rest mm nn most R v6 G2 gt (s0G2.seq hS) (s0G2 _ _ hlb) s0G2)
end
end My
set_option Elab.async false
set_option linter.all false
set_option maxRecDepth 100000
set_option maxHeartbeats 4000000
namespace SetX
open PySem PySem.Spec PyProof.Rows SetT
def stepS (σ : List Str) (k : Str) : List Str := if k ∈ σ then σ else σ ++ [k]
def metS (val : Nat → Str) (i : Nat) : List Str := ((List.range i).map val).foldl stepS []
theorem metS_succ (val : Nat → Str) (i : Nat) : metS val (i + 1) = stepS (metS val i) (val i) := by
  unfold metS
  rw [List.range_succ, List.map_append, List.foldl_append]
  rfl
theorem metS_le (val : Nat → Str) : ∀ i, (metS val i).length ≤ i
  | 0 => Nat.le_refl _
  | i + 1 => by
    have := metS_le val i
    rw [metS_succ]
    unfold stepS
    split
    · omega
    · rw [List.length_append, List.length_singleton]; omega
theorem SetOf_congr {prog : Program} {w : World} {h : Heap} {a : Addr} {S S' : Str → Bool} {n n' : Nat} (hS : h.SetOf (strKind prog w) a S n) (e : ∀ k, S k = S' k) (en : n = n') : h.SetOf (strKind prog w) a S' n' := by
  have : S = S' := funext e
  subst this
  subst en
  exact hS
theorem setOf_num {prog : Program} {w : World} {h : Heap} {a : Addr} {S : Str → Bool} {n : Nat} (x : h.SetOf (strKind prog w) a S n) : SetN h a n := by
  obtain ⟨o, es, ep, t, ho, hex, hd, _, _, _, hf, hn⟩ := x
  exact ⟨o, es, ep, t, ho, hex, hd, hf, hn⟩
section
variable {prog : Program} {w : World} {A : Around} {R : Result → Shared → Prop} {I : Addr} {fp wr : List Addr} {G : Array GenState → Array GenState → Prop} {n : Nat} {P : Nat → Value → Prop} {St : Nat → Shared → Prop}
theorem text_loop (W : WalksS prog w A.in1 I fp wr G n P St) (S : Addr) (hSf : S ∉ fp) (val : Nat → Str) (hv : ∀ i v, P i v → ∃ t, v = .str (val i) t) (hb : n + 1 < scanBound) :
    ∀ (k i : Nat) (s : Shared), n - i = k → i ≤ n → St i s → s.heap.SetOf (strKind prog w) S (fun k' => decide (k' ∈ metS val i)) (metS val i).length →
      (∀ s', Moved (S :: wr) G s s' → s'.heap.SetOf (strKind prog w) S (fun k' => decide (k' ∈ metS val n)) (metS val n).length → R (.ok (.ret .none)) s') →
      codeAny (model prog w) A (.builtin "set.update.loop" ⟨[.ref S, .ref I], []⟩) R s := by
  have hSw : S ∉ wr := fun h => hSf (W.sub _ h)
  have hsub : ∀ b ∈ wr, b ∈ S :: wr := fun b hb => List.mem_cons_of_mem _ hb
  have keepS : ∀ {s s' : Shared} {X : Str → Bool} {m : Nat}, (∀ b o, b ∉ wr → s.heap.get? b = some o → s'.heap.get? b = some o) → s.heap.SetOf (strKind prog w) S X m → s'.heap.SetOf (strKind prog w) S X m := by
    intro s s' X m hk hS
    obtain ⟨o, es, ep, t, ho, rest⟩ := hS
    exact ⟨o, es, ep, t, hk S o hSw ho, rest⟩
  intro k
  induction k with
  | zero =>
    intro i s hk hi hst hS hR
    have hin : i = n := by omega
    subst hin
    refine codeAny_builtin F.entry_set_update_loop ?_
    rw [Around.under_plainId F.plain_set_update_loop _]
    show wpAny _ A.in1 (pyNext (.ref I) >>= _) _ _ s
    refine wpAny_bind (W.done s _ _ hst fun s' hm => ?_)
    show wpAny _ A.in1 (ret Value.none) _ _ s'
    exact wpAny_pure (hR s' (hm.mono hsub) (keepS hm.heap hS))
  | succ k ih =>
    intro i s hk hi hst hS hR
    have hlt : i < n := by omega
    refine codeAny_builtin F.entry_set_update_loop ?_
    rw [Around.under_plainId F.plain_set_update_loop _]
    show wpAny _ A.in1 (pyNext (.ref I) >>= _) _ _ s
    refine wpAny_bind (W.item i s _ _ hlt hst fun v s' hP hst' hm => ?_)
    obtain ⟨t, rfl⟩ := hv i v hP
    have hS' := keepS hm.heap hS
    show wpAny _ A.in1 (holding [Value.str (val i) t] (setAdd S (.str (val i) t)) >>= _) _ _ s'
    refine wpAny_bind (wpAny_holding ?_)
    unfold setAdd
    refine wpAny_holding ?_
    refine wpAny_bind ((strKind prog w).pyHash (k := val i) (strKind_is _ _ _ _) ?_)
    have hlen := metS_le val i
    refine wpAny_setAddHashed_of (knd := strKind prog w) (strKind_is _ _ _ _) rfl hS' (by omega) fun h' hsb hS2 => ?_
    have hSi : h'.SetOf (strKind prog w) S (fun k' => decide (k' ∈ metS val (i + 1))) (metS val (i + 1)).length := by
      refine SetOf_congr hS2 (fun k' => ?_) ?_
      · rw [metS_succ]
        unfold stepS
        split
        · rename_i hm
          by_cases e : k' = val i
          · subst e; simp [hm]
          · simp [e]
        · by_cases e : k' = val i
          · subst e; simp
          · simp [e]
      · rw [metS_succ]
        unfold stepS
        by_cases hm : val i ∈ metS val i
        · rw [if_pos hm, if_pos (decide_eq_true hm)]
        · rw [if_neg hm, if_neg (fun z => hm (of_decide_eq_true z)), List.length_append, List.length_singleton]
    refine wpAny_pure ⟨plainId_quiet F.plain_set_update_loop _, ih (i + 1) _ (by omega) hlt (W.frame _ s' _ _ hst' (by first | exact Nat.le_refl _ | exact Nat.le_succ _ | exact Nat.le_add_right _ _) fun b hb o e => ?_) hSi fun s'' hm'' hS'' => ?_⟩
    · rw [hsb.2 b (fun h : b = S => hSf (by rw [← h]; exact hb))]; exact e
    · refine hR s'' (Moved.trans W.gtrans ((hm.mono hsub).then_heap (by first | exact Nat.le_refl _ | exact Nat.le_succ _ | exact Nat.le_add_right _ _) fun b o hb e => ?_) hm'') hS''
      rw [hsb.2 b (fun h : b = S => hb (by rw [h]; exact List.mem_cons_self))]; exact e
end
variable {prog : Program} {w : World} {A : Around} {E : Value → Shared → Prop} {s : Shared}
theorem call_set_texts {l : Addr} {items : Array Value} {val : Nat → Str} {Q : Value → Shared → Prop}
    (hh : A.handled = none) (hu : A.units + 8 < cLine) (hl : s.heap.IsList l items) (hi : ∀ (i : Nat) (v : Value), items[i]? = some v → ∃ t, v = .str (val i) t) (hb : items.size + 1 < scanBound)
    (h : ∀ (h' : Heap) (tk : Nat), SetN h' s.heap.objs.size (metS val items.size).length →
      (∀ b o, b < s.heap.objs.size → s.heap.get? b = some o → h'.get? b = some o) → Q (.ref s.heap.objs.size) { s with heap := h', toks := tk }) :
    wpAny (model prog w) A (call (.type "set") [.ref l]) Q E s := by
  obtain ⟨c, tl, hmro⟩ := F.called_set.mro
  have hmade := F.called_set.made
  have hsub := F.called_set.sub
  refine wpAny_call (codeAny_of_tree ?_)
  show wpAny _ _ (callAny (.type "set") _) _ _ _
  refine wpAny_pure ⟨Code.quiet_builtin _ (by decide +kernel), codeAny_builtin F.entry_type_call ?_⟩
  rw [Around.under_plain (weight_type_call_type "set" [.ref l] []) rfl]
  have h1 := F.called_set.notType
  have h2 := F.called_set.canCreate
  have hct := F.typeCall_set_1 (.ref l)
  repeat (any_goals (first | assumption | wp_step))
  refine codeAny_mono (code_set_new_1 (.ref l) (E := E) (Q₁ := fun obj s₁ => ∃ led : Bool, obj = .ref s.heap.objs.size ∧ s₁ = { s with heap := s.heap.push { cls := .type "set", dict := none, data := .set #[] 0 (.fresh 0 0 led) } }) fun led => ⟨led, rfl, rfl⟩) fun r s₁ hr => ?_
  cases r with
  | error e => exact hr
  | ok fl =>
    cases fl with
    | ret obj =>
      obtain ⟨led, rfl, rfl⟩ := hr
      have hS : (s.heap.push { cls := .type "set", dict := none, data := .set #[] 0 (.fresh 0 0 led) }).get? s.heap.objs.size = some { cls := .type "set", dict := none, data := .set #[] 0 (.fresh 0 0 led) } := Heap.get?_push_size _ rfl
      have hT : Shared.TypeIs { s with heap := s.heap.push { cls := .type "set", dict := none, data := .set #[] 0 (.fresh 0 0 led) } } (.ref s.heap.objs.size) "set" := ⟨_, hS, rfl⟩
      have hli := F.called_set.init.lookup
      have hbi := F.called_set.init.bind (.ref s.heap.objs.size)
      repeat (any_goals (first | assumption | wp_step))
      refine codeAny_mono (codeAny_call_builtin (R := wants (fun r s₂ => r = .none ∧ ∃ h' tk, s₂ = { s with heap := h', toks := tk } ∧
          SetN h' s.heap.objs.size (metS val items.size).length ∧
          (∀ b o, b < s.heap.objs.size → s.heap.get? b = some o → h'.get? b = some o)) E) F.called_set.init.plain F.entry_set_init (check_set_init_1 hT ?_)) fun r₂ s₂ hr₂ => ?_
      · obtain ⟨ol, hol, hcl, nl, hdl⟩ := hl
        obtain ⟨ocls, odict, odata, oslots⟩ := ol
        simp only at hcl hdl
        subst hcl; subst hdl
        have hol' : (s.heap.push { cls := .type "set", dict := none, data := .set #[] 0 (.fresh 0 0 led) }).get? l = some { cls := .type "list", dict := odict, data := .seq items nl, slots := oslots } := Heap.get?_push_of_some _ hol
        have hsls := F.sub_list_set
        have hslf := F.sub_list_frozenset
        have hne : (Value.type "list" == Value.type "dict") = false := by decide
        have hl1 : (s.heap.push { cls := .type "set", dict := none, data := .set #[] 0 (.fresh 0 0 led) }).IsList l items := ⟨_, hol', rfl, nl, rfl⟩
        unfold Builtin.«set.__init__» noKeywords Builtin.Frozenset.updateFrom
        generalize hPI : pyIter = PI
        wp_walk
        subst hPI
        refine wpAny_pyIter_list hl1 ?_
        refine wpAny_bind (wpAny_runValue ?_)
        have hlS : l < s.heap.objs.size := Heap.lt_size hol
        have hh3 : A.in1.in1.in1.handled = none := by simp [hh]
        have hu' : A.in1.in1.in1.units < cLine := by show A.units + 1 + 1 + 1 < cLine; omega
        have hneI : l ≠ (s.heap.push { cls := .type "set", dict := none, data := .set #[] 0 (.fresh 0 0 led) }).objs.size := by
          rw [Heap.size_push]; exact Nat.ne_of_lt (Nat.lt_succ_of_lt hlS)
        have hSf : s.heap.objs.size ∉ [(s.heap.push { cls := .type "set", dict := none, data := .set #[] 0 (.fresh 0 0 led) }).objs.size, l] := by
          rw [Heap.size_push]; simp only [List.mem_cons, List.mem_singleton, List.not_mem_nil, or_false, not_or]
          exact ⟨Nat.ne_of_lt (Nat.lt_succ_self _), Nat.ne_of_gt hlS⟩
        refine text_loop ((Walks.list hh3 _ l hneI items).toS) s.heap.objs.size
          hSf val hi hb (items.size - 0) 0 _ (by omega) (Nat.zero_le _)
          ⟨⟨_, Heap.get?_push_size _ rfl, rfl, rfl⟩, (hl1.push _)⟩ ?hS0 ?hR
        case hS0 =>
          have hget : ((s.heap.push { cls := .type "set", dict := none, data := .set #[] 0 (.fresh 0 0 led) }).push { cls := .type "list_iterator", data := .fields #[.ref l, .int 0 0] }).get? s.heap.objs.size
              = some { cls := .type "set", dict := none, data := .set #[] 0 (.fresh 0 0 led) } := Heap.get?_push_of_some _ hS
          exact SetOf_congr ((setObjOf_fresh (knd := strKind prog w) led).setOf hget (by unfold scanBound; omega)) (fun _ => rfl) rfl
        case hR =>
          intro s' hm hS'
          obtain ⟨h', g', d', tk', os'⟩ := s'
          have eg : g' = s.gens := hm.gens
          have ed : d' = s.drawn := hm.drawn
          have eo : os' = s.os := hm.os
          subst eg; subst ed; subst eo
          show wpAny _ _ _ _ _ _
          refine wpAny_pure ?_
          show wpAny _ _ (ret Value.none) _ _ _
          refine wpAny_pure ⟨rfl, h', tk', rfl, setOf_num hS', fun b o hb e => ?_⟩
          have hb1 : b ≠ s.heap.objs.size := Nat.ne_of_lt hb
          have hb2 : b ≠ (s.heap.push { cls := .type "set", dict := none, data := .set #[] 0 (.fresh 0 0 led) }).objs.size := by
            rw [Heap.size_push]; exact Nat.ne_of_lt (Nat.lt_succ_of_lt hb)
          exact hm.heap b o (by simp only [List.mem_cons, List.mem_singleton, List.not_mem_nil, or_false, not_or]; exact ⟨hb1, hb2⟩) (Heap.get?_push_of_some _ (Heap.get?_push_of_some _ e))
      · cases r₂ with
        | error e => exact hr₂
        | ok fl₂ =>
          cases fl₂ with
          | ret r =>
            obtain ⟨rfl, h', tk, rfl, hS', hk'⟩ := hr₂
            repeat (any_goals (first | assumption | wp_step))
            exact h _ _ hS' hk'
          | _ => exact hr₂.elim
    | _ => exact hr.elim
end SetX
namespace L2
open PySem PySem.Spec PyProof.Rows
section
variable {X : Cx}
def rSetX (K : PySem.W.Frag) : List V → Hp → VK → Prop := fun xs H Q => ∃ p, ∃ ss : List Str, xs = [.ref p] ∧ SqL K H p (ss.map V.str) ∧ ss.length ≤ 1000 ∧ ∀ q H', Same H H' → H' q = some (setHO q (ss.foldl SetX.stepS []).length) → Q (.ref q) H'
theorem metS_all (ss : List Str) : SetX.metS (fun i => ss.getD i Str.empty) ss.length = ss.foldl SetX.stepS [] := by
  unfold SetX.metS
  congr 1
  refine List.ext_getElem? fun i => ?_
  rw [List.getElem?_map]
  by_cases h : i < ss.length
  · rw [List.getElem?_range h, List.getElem?_eq_getElem h]
    show some (ss.getD i Str.empty) = _
    rw [List.getD_eq_getElem?_getD, List.getElem?_eq_getElem h]
    rfl
  · rw [List.getElem?_eq_none (by rw [List.length_range]; omega), List.getElem?_eq_none (by omega)]
    rfl
theorem call_setX {k : Nat} (hr : Room k X.A) : CallR X (.type "set") (rSetX X.K) := by
  intro pins s σ H xs us Q I r h
  obtain ⟨p, ss, rfl, hp, h1000, q⟩ := h
  obtain ⟨u, rfl, rx⟩ := vals1 r
  cases (show u = Value.ref p from rx)
  obtain ⟨vs, rv, pl, hz⟩ := I.list hp
  have hvl := rv.length
  rw [List.length_map] at hvl
  refine SetX.call_set_texts (val := fun i => ss.getD i Str.empty) hr.hd (by have := hr.un; omega) pl.isList (fun i v hv => ?_) (by rw [List.size_toArray, ← hvl]; unfold scanBound; omega) fun h' tk hN kp => ?_
  · have hv' : vs[i]? = some v := by simpa using hv
    have hi : i < ss.length := by rw [hvl]; exact (List.getElem?_eq_some_iff.mp hv').1
    obtain ⟨u2, e2, r2⟩ := rv.get (i := i) (x := .str ss[i]) (by rw [List.getElem?_map, List.getElem?_eq_getElem hi]; rfl)
    rw [hv'] at e2
    cases e2
    obtain ⟨t, rfl⟩ := (show ∃ t, v = Value.str _ t from r2)
    exact ⟨t, by rw [List.getD_eq_getElem?_getD, List.getElem?_eq_getElem hi]; rfl⟩
  · have esz : vs.toArray.size = ss.length := by rw [List.size_toArray]; omega
    rw [esz, metS_all] at hN
    have kp' : ∀ b o, s.heap.get? b = some o → h'.get? b = some o := fun b o e => kp b o (Heap.lt_size e) e
    refine ⟨.ref s.heap.objs.size, _, I.laid (t' := tk) (o := setHO s.heap.objs.size (ss.foldl SetX.stepS []).length) kp' (Nat.le_refl _) ?_, rfl, q _ _ (same_add (I.hok.fresh (Nat.le_refl _))) upd_same⟩
    exact ⟨hN, let ⟨o, _, _, _, ho, _⟩ := hN; ⟨o, ho⟩, fun h1 h2 x k => setN_at x k⟩
end
end L2
set_option Elab.async false
set_option linter.all false
set_option maxRecDepth 100000
set_option maxHeartbeats 1000000
namespace L2
open PySem
theorem pe_fc0 {X : Cx} {x : Str} {ps : List Str} {k : Nat} {sp : Sp} {p pos : Pos} (F : FnE X.prog X.w X.K X.mg X.base x ps k sp) (hr : Room k X.A) (hg : Gl X x := by rfl) (hdb : (x == ("__debug__" : Str)) = false := by decide) : PE X (.Call (.Name x p) [] [] pos) (tCall sp [] E0 tNil) :=
  let ⟨_, _, a, b, c, d⟩ := F.ex; pe_call0 a hr hg b c d .nil pass0 hdb
end L2
namespace Tx
open PySem
theorem set_len (ls : List Ln) : ((ls.map (·.a) ++ ls.map (·.b)).foldl SetX.stepS []).length = (uniq ls).length := by
  have e : (ls.map (·.a) ++ ls.map (·.b)).foldl SetX.stepS [] = addNs [] (ls.map (·.a) ++ ls.map (·.b)) := rfl
  rw [e]
  have mm : ∀ y, y ∈ ls.map (·.a) ++ ls.map (·.b) ↔ y ∈ nms ls := fun y => by
    rw [List.mem_append, List.mem_map, List.mem_map]
    constructor
    · rintro (⟨l, hl, rfl⟩ | ⟨l, hl, rfl⟩)
      · exact (mem_nms hl).1
      · exact (mem_nms hl).2
    · intro h
      obtain ⟨l, hl, hy⟩ := List.mem_flatMap.mp h
      simp only [List.mem_cons, List.not_mem_nil, or_false] at hy
      rcases hy with rfl | rfl
      · exact .inl ⟨l, hl, rfl⟩
      · exact .inr ⟨l, hl, rfl⟩
  refine Nat.le_antisymm (nodup_le (nodup_addNs List.nodup_nil) fun y hy => ?_) (nodup_le (nodup_addNs List.nodup_nil) fun y hy => ?_)
  · rcases mem_addNs.mp hy with h | h
    · cases h
    · exact mem_addNs.mpr (.inr ((mm y).mp h))
  · rcases mem_addNs.mp hy with h | h
    · cases h
    · exact mem_addNs.mpr (.inr ((mm y).mpr h))
end Tx
namespace My
open PySem L2 Tx
theorem bSet : bootBuiltins "set" = some (.type "set") := by decide +kernel
def binL : Expr → Expr
  | .BinOp a _ _ _ => a
  | e => e
abbrev sLaw : Stmt := top 82
abbrev nLaw : List Str := ["_law_script", "_law_names_here", "_law_lines", "_law_text_here", "_law_no_text", "_law_k", "_law_bad", "_law_at", "_law_line", "_law_thing", "_law_found", "_law_used"]
abbrev laS1 : Scope := compS (binL (retX (stAt 82 11)))
abbrev laS2 : Scope := compS (retX (stAt 82 11))
def spLaw (K : PySem.W.Frag) : Sp := fun vs H Q _ => ∃ (a : Addr) (ns : List Int), vs = [.ref a] ∧ SqL K H a (ns.map V.int) ∧ ns.length ≤ 63 ∧ ∀ H', Q (.bl true) H'
theorem scLaw : FnScope nLaw ["_law_script"] (defScope sLaw) := ⟨rfl, rfl, rfl, by decide +kernel, rfl, by decide +kernel, by decide +kernel⟩
theorem ndL : (["_law_line"] : List Str).Nodup := by decide +kernel
theorem txt_put {ls : List Ln} (hok : ∀ l ∈ ls, l.ok) (hne : ls ≠ []) (h12 : ls.length ≤ 12) {b : Str} (hb : b ∈ badL) (k : Nat) : allM (Str.join nln ((ls.map lineT).take k ++ [b] ++ (ls.map lineT).drop k)) = false ∧
    (((ls.map lineT).take k ++ [b] ++ (ls.map lineT).drop k).map (·.length)).sum + ((ls.map lineT).take k ++ [b] ++ (ls.map lineT).drop k).length ≤ 5000 := by
  obtain ⟨c1, c2, c3⟩ := bad_ok hb
  have hsum := sum_lines hok
  have e : (((ls.map lineT).take k ++ [b] ++ (ls.map lineT).drop k).map (·.length)).sum = ((ls.map lineT).map (·.length)).sum + b.length := by
    rw [List.map_append, List.map_append, List.sum_append, List.sum_append, List.map_take, List.map_drop]
    have := congrArg List.sum (List.take_append_drop k ((ls.map lineT).map (·.length)))
    rw [List.sum_append] at this
    simp only [List.map_cons, List.map_nil, List.sum_cons, List.sum_nil]
    omega
  have e2 : ((ls.map lineT).take k ++ [b] ++ (ls.map lineT).drop k).length = ls.length + 1 := by
    simp only [List.length_append, List.length_take, List.length_drop, List.length_map, List.length_cons, List.length_nil]
    omega
  refine ⟨line_bad (b := b) (fun p hp => ?_) (by simp) c2 ?_, by rw [e, e2]; omega⟩
  · rcases List.mem_append.mp hp with hp | hp
    · rcases List.mem_append.mp hp with hp | hp
      · obtain ⟨l, hm, rfl⟩ := List.mem_map.mp (List.mem_of_mem_take hp)
        exact line_free (hok l hm)
      · rw [List.mem_singleton.mp hp]; exact c1
    · obtain ⟨l, hm, rfl⟩ := List.mem_map.mp (List.mem_of_mem_drop hp)
      exact line_free (hok l hm)
  · cases ls with
    | nil => exact absurd rfl hne
    | cons l ls =>
      have hl := (line_len (hok l (by simp))).1
      have hm : lineT l ∈ ((l :: ls).map lineT).take k ++ [b] ++ ((l :: ls).map lineT).drop k := by
        have : lineT l ∈ ((l :: ls).map lineT).take k ++ ((l :: ls).map lineT).drop k := by rw [List.take_append_drop]; simp
        rcases List.mem_append.mp this with h | h
        · exact List.mem_append.mpr (.inl (List.mem_append.mpr (.inl h)))
        · exact List.mem_append.mpr (.inr h)
      have := part_le nln _ _ hm
      omega
section
variable {P : Program} {w : World} {K : PySem.W.Frag} {mg : Str → Option Value} {base : Heap}
theorem blkL1 {f : Addr} {cdv : Value} {A : Around} {outer : List Env} {s : Shared} {H : Hp} {E : XK} : Blk (cxOf CX0 P w K mg base nLaw "law" (defScope sLaw) f cdv A outer s H E).nox laS1 [] ["_law_line"] [none] := by
  refine ⟨rfl, rfl, by decide +kernel, by decide +kernel, fun p hp => (by cases hp), fun y hy e => ?_, trivial⟩
  have hy' : y ∈ [((PySem.Str.ofString ".0" : Str), NameKind.local), (PySem.Str.ofString "_law_line", .local)] := hy
  simp only [List.mem_cons, List.not_mem_nil, or_false] at hy'
  rcases hy' with rfl | rfl <;> first | rfl | cases e
theorem blkL2 {f : Addr} {cdv : Value} {A : Around} {outer : List Env} {s : Shared} {H : Hp} {E : XK} : Blk (cxOf CX0 P w K mg base nLaw "law" (defScope sLaw) f cdv A outer s H E).nox laS2 [] ["_law_line"] [none] := by
  refine ⟨rfl, rfl, by decide +kernel, by decide +kernel, fun p hp => (by cases hp), fun y hy e => ?_, trivial⟩
  have hy' : y ∈ [((PySem.Str.ofString ".0" : Str), NameKind.local), (PySem.Str.ofString "_law_line", .local)] := hy
  simp only [List.mem_cons, List.not_mem_nil, or_false] at hy'
  rcases hy' with rfl | rfl <;> first | rfl | cases e
end
end My
set_option Elab.async false
set_option linter.all false
set_option maxRecDepth 100000
set_option maxHeartbeats 2000000
namespace Tx
open PySem
theorem join_len (s : Str) : ∀ l : List Str, (Str.join s l).length ≤ (l.map (·.length)).sum + s.length * l.length
  | [] => Nat.zero_le _
  | [a] => by show a.length ≤ _; simp only [List.map_cons, List.map_nil, List.sum_cons, List.sum_nil]; omega
  | a :: b :: l => by
    have := join_len s (b :: l)
    rw [join_two, len_app, len_app]
    simp only [List.map_cons, List.sum_cons, List.length_cons, Nat.mul_add, Nat.mul_one] at this ⊢
    omega
end Tx
namespace My
open PySem L2 Tx
section
variable {P : Program} {w : World} {K : PySem.W.Frag} {mg : Str → Option Value} {base : Heap}
theorem ok_law {f : Addr} {fd : FuncData} (F : Fun K "law" "law" sLaw f fd) (T : Bi mg) (hse : mg "set" = none) (FD : FnE P w K mg base "_law_draw" ["_law_script", "_law_k"] 8 (spDraw K)) (FN : FnE P w K mg base "_law_names" ["_law_script", "_law_at", "_law_many"] 8 (spNs K)) (FT : FnE P w K mg base "_law_text" pTx 8 (spTx K)) (FRf : FnE P w K mg base "_law_refused" ["_law_thing", "_law_whole"] 8 spRf)
    (FSp : FnE P w K mg base "_law_spoiled" ["_law_script", "_law_text_here", "_law_number"] 8 spSp) (FB : FnE P w K mg base "_law_bad_lines" [] 8 spBl) (FBk : FnE P w K mg base "_law_bounds_kept" ["_law_script", "_law_bad"] 8 (spBk K)) (FR : FnE P w K mg base "read" ["text"] 8 spRd) : FnOk P w K mg base CX0 9 f fd ["_law_script"] (spLaw K) := by
  refine F.ok scLaw (fun vs H Q E h => ?_) (fun cdv A outer s H vs Q E hr h => ?_)
  · obtain ⟨a, ns, rfl, _⟩ := h
    rfl
  · obtain ⟨a, ns, rfl, hS, hD, q⟩ := h
    have hD : Dr ns := hD
    obtain ⟨tR, hR, rest⟩ : ∃ t, PSs (cxOf CX0 P w K mg base nLaw "law" (defScope sLaw) f cdv A outer s H E).nox ((defBody sLaw).drop 10) t ∧ ∀ (NL LL NT LB : Addr) (ls : List Ln) v5 v7 v8 v9 (G : Hp), G LL = some (.lst ((ls.map lineT).map V.str)) → (∀ l ∈ ls, l.ok) → ls.length ≤ 12 →
        t { nx := fun _ H' => Q .non H', rt := Q } [some (.ref a), some (.ref NL), some (.ref LL), some (.str (txt ls)), some (.ref NT), v5, some (.ref LB), v7, v8, v9, none, none] G := by
      refine ⟨_, pss_cons (ps_set (i := 10) scLaw.nd rfl (Or.inl rfl) (pe_fc FR hr (pa_c (pv 3) pa_nil)))
        (pss_cons (ps_set (i := 11) scLaw.nd rfl (Or.inl rfl) (pe_op op_catLS
          (pe_lcL blkL1 rfl (pv 2) (mono_var 2) (fun C fp s H => pg_name (i := 0) ndL rfl (Or.inl rfl) (hf := Or.inr rfl)) (fun C fp s H => pts_nil) (fun C fp s H => pe_ix (ix_listK (K := K) rfl) (pe_bmK (K := K) rfl (pe_bm PySem.F.plainAttrs_str PySem.F.slot_str_split PySem.F.type_str_split mt_split (pv 0) (pa_c pe_str pa_nil))) pe_int (fun _ _ => rfl)))
          (pe_lcL blkL2 rfl (pv 2) (mono_var 2) (fun C fp s H => pg_name (i := 0) ndL rfl (Or.inl rfl) (hf := Or.inr rfl)) (fun C fp s H => pts_nil) (fun C fp s H => pe_ix (ix_listK (K := K) rfl) (pe_bmK (K := K) rfl (pe_bm PySem.F.plainAttrs_str PySem.F.slot_str_split PySem.F.type_str_split mt_split (pv 0) (pa_c pe_str pa_nil))) pe_int (fun _ _ => rfl)))))
        (pss_one (ps_ret (pe_and (pe_cmpR op_eq (pe_callB call_len_seq rfl T.len bLen (pa_c (pe_ix ix_tup (pe_ix ix_tup (pv 10) pe_int (fun _ _ => rfl)) pe_int (fun _ _ => rfl)) pa_nil)) (pe_callB call_len_seq rfl T.len bLen (pa_c (pv 2) pa_nil)) (nomark _))
          (pe_and (pe_cmpR op_eq (pe_ix ix_tup (pe_ix ix_tup (pv 10) pe_int (fun _ _ => rfl)) pe_int (fun _ _ => rfl)) (pe_callB call_lenS rfl T.len bLen (pa_c (pe_callTy (call_setX hr) rfl hse bSet (pa_c (pv 11) pa_nil)) pa_nil)) (nomark _))
          (pe_one (pe_cmpR op_eq (pe_callB call_len_seq rfl T.len bLen (pa_c (pe_ix ix_tup (pv 10) pe_int (fun _ _ => rfl)) pa_nil)) (pe_callB call_lenS rfl T.len bLen (pa_c (pe_callTy (call_setX hr) rfl hse bSet (pa_c (pv 11) pa_nil)) pa_nil)) (nomark _)))))))), fun NL LL NT LB ls v5 v7 v8 v9 G hLL hok h12 => ?_⟩
      have hu : (uniq ls).length ≤ 24 := by
        have := len_addNs (ws := nms ls) (acc := [])
        rw [nms_len] at this
        unfold uniq
        simp only [List.length_nil] at this
        omega
      refine ⟨_, rfl, ls, rfl, hok, by omega, by omega, fun G1 p pn pe pt ph xs s1 R => ?_⟩
      have hLL1 := s1 _ _ hLL
      have lrow : ∀ {i : Nat} {x : V}, ((ls.map lineT).map V.str)[i]? = some x → ∃ l, x = .str (lineT l) ∧ ls[i]? = some l ∧ l ∈ ls := fun {i x} h => by
        rw [List.getElem?_map, List.getElem?_map] at h
        cases hq : ls[i]? with
        | none => rw [hq] at h; cases h
        | some l => rw [hq] at h; cases h; exact ⟨l, rfl, rfl, List.mem_of_getElem? hq⟩
      have lln : ((ls.map lineT).map V.str).length = ls.length := by rw [List.length_map, List.length_map]
      refine ⟨_, rfl, LL, _, rfl, SqL.of hLL1, by rw [lln]; omega, fun i ys σ G' => Same G1 G' ∧ ys = ((ls.take i).map (·.a)).map V.str ∧ ∃ v0, σ = [v0], ⟨Same.refl _, rfl, none, rfl⟩, fun i ys σ G' hi ⟨e1, e2, _⟩ => ⟨SqL.of (e1 _ _ hLL1), by rw [e2, List.length_map, List.length_map, List.length_take]; omega⟩, fun i x ys σ G' hx ⟨e1, e2, v0, e3⟩ => ?_, fun ys1 σ G' ⟨e1, e2, _⟩ L1 G2 s2 hL1 => ?_⟩
      · subst e3
        obtain ⟨l, rfl, hq, hm⟩ := lrow hx
        have l21 := (line_len (hok l hm)).2
        refine ⟨_, rfl, rfl, lineT l, sp, rfl, rfl, (by decide +kernel), by omega, split_okL (by omega), split_okP (by omega), fun l3 G3 s3 hl3 => ?_⟩
        rw [line_split (hok l hm)] at hl3
        refine ⟨l3, _, 0, _, rfl, rfl, SqL.of hl3, ws0 l, Same.trans e1 s3, ?_, _, rfl⟩
        rw [take_map (f := fun l : Ln => l.a) hq, List.map_append, e2]
        rfl
      rw [lln, List.take_length] at e2
      have s12 := Same.trans e1 s2
      subst e2
      have hLL2 := s12 _ _ hLL1
      refine ⟨_, rfl, LL, _, rfl, SqL.of hLL2, by rw [lln]; omega, fun i ys σ G' => Same G2 G' ∧ ys = ((ls.take i).map (·.b)).map V.str ∧ ∃ v0, σ = [v0], ⟨Same.refl _, rfl, none, rfl⟩, fun i ys σ G' hi ⟨e1, e2, _⟩ => ⟨SqL.of (e1 _ _ hLL2), by rw [e2, List.length_map, List.length_map, List.length_take]; omega⟩, fun i x ys σ G' hx ⟨e1, e2, v0, e3⟩ => ?_, fun ys2 σ G' ⟨f1, f2, _⟩ L2 G3 s3 hL2 => ?_⟩
      · subst e3
        obtain ⟨l, rfl, hq, hm⟩ := lrow hx
        have l21 := (line_len (hok l hm)).2
        refine ⟨_, rfl, rfl, lineT l, sp, rfl, rfl, (by decide +kernel), by omega, split_okL (by omega), split_okP (by omega), fun l3 G3 s3 hl3 => ?_⟩
        rw [line_split (hok l hm)] at hl3
        refine ⟨l3, _, 1, _, rfl, rfl, SqL.of hl3, ws1 l, Same.trans e1 s3, ?_, _, rfl⟩
        rw [take_map (f := fun l : Ln => l.b) hq, List.map_append, e2]
        rfl
      rw [lln, List.take_length] at f2
      subst f2
      have s23 := Same.trans f1 s3
      refine ⟨L1, L2, _, _, rfl, rfl, s23 _ _ hL1, hL2, by rw [List.length_map, List.length_map, List.length_map, List.length_map]; omega, fun U G4 s4 hU => ?_⟩
      have hU' : G4 U = some (.lst ((ls.map (·.a) ++ ls.map (·.b)).map V.str)) := by rw [hU, List.map_append]
      have s14 := Same.trans s12 (Same.trans s23 s4)
      have R4 := R.keep s14
      have hlx : xs.length = ls.length := by rw [R.e4.1]; unfold lsT; rw [List.length_map]
      refine ⟨_, rfl, p, _, 1, _, rfl, rfl, SqT.of R4.e0, atI_nat (j := 1) rfl, pe, _, 1, _, rfl, rfl, SqT.of R4.e2, atI_nat (j := 1) rfl, pt, _, rfl, .inr (SqT.of R4.e3), _, rfl, LL, _, rfl, .inl (SqL.of (s14 _ _ hLL1)), rfl, _, rfl, ?_⟩
      rw [lln, hlx, decide_eq_true rfl]
      refine iteT ?_
      have hul : (ls.map (·.a) ++ ls.map (·.b)).length ≤ 1000 := by rw [List.length_append, List.length_map, List.length_map]; omega
      refine ⟨_, rfl, p, _, 1, _, rfl, rfl, SqT.of R4.e0, atI_nat (j := 1) rfl, pe, _, 0, _, rfl, rfl, SqT.of R4.e2, atI_nat (j := 0) rfl, _, rfl, U, _, rfl, SqL.of hU', hul, fun q1 G5 s5 hq1 => ?_⟩
      rw [set_len] at hq1
      refine ⟨q1, _, rfl, hq1, by omega, rfl, _, rfl, ?_⟩
      rw [decide_eq_true rfl]
      refine iteT ?_
      have R5 := R4.keep s5
      refine ⟨_, rfl, p, _, 0, _, rfl, rfl, SqT.of R5.e0, atI_nat (j := 0) rfl, pn, _, rfl, .inr (SqT.of R5.e1), _, rfl, U, _, rfl, SqL.of (s5 _ _ hU'), hul, fun q2 G6 s6 hq2 => ?_⟩
      rw [set_len] at hq2
      refine ⟨q2, _, rfl, hq2, by omega, rfl, ?_⟩
      rw [List.length_map, decide_eq_true rfl]
      exact q G6
    obtain ⟨e0, e1, e2, e3, e4, e5, e6, e7, eI, p0, p1, p2, p3, hB, h0, h1, h2, h3, h4, h5, h6, h7, hI, wI, w0, w1, w2, w3, w4, w5, w6, w7⟩ : ∃ (e0 e1 e2 e3 e4 e5 e6 e7 eI : Expr) (p0 p1 p2 p3 : Pos), (defBody sLaw).drop 7 = .Assign [.Name "_law_thing" p0] (.Subscript (.List [e0, e1, e2, e3, e4, e5, e6, e7] p1) eI p2) p3 :: (defBody sLaw).drop 8 ∧
        PE (cxOf CX0 P w K mg base nLaw "law" (defScope sLaw) f cdv A outer s H E).nox e0 (tC .non) ∧ PE (cxOf CX0 P w K mg base nLaw "law" (defScope sLaw) f cdv A outer s H E).nox e1 (tC (.int 3)) ∧ PE (cxOf CX0 P w K mg base nLaw "law" (defScope sLaw) f cdv A outer s H E).nox e2 (tC (.bl true)) ∧ PE (cxOf CX0 P w K mg base nLaw "law" (defScope sLaw) f cdv A outer s H E).nox e3 (tTupS (tCons (tC (.str (Str.ofString "a b"))) tNil)) ∧ PE (cxOf CX0 P w K mg base nLaw "law" (defScope sLaw) f cdv A outer s H E).nox e4 (tLstS (tCons (tC (.str (Str.ofString "a b"))) tNil)) ∧ PE (cxOf CX0 P w K mg base nLaw "law" (defScope sLaw) f cdv A outer s H E).nox e5 tDNewS ∧ PE (cxOf CX0 P w K mg base nLaw "law" (defScope sLaw) f cdv A outer s H E).nox e6 (tTupS (tCons (tC (.str (Str.ofString "a b"))) (tCons (tC (.str (Str.ofString "b c"))) tNil))) ∧ PE (cxOf CX0 P w K mg base nLaw "law" (defScope sLaw) f cdv A outer s H E).nox e7 (tUn (rU fun i => .int (-i)) (tC (.int 1))) ∧
        PE (cxOf CX0 P w K mg base nLaw "law" (defScope sLaw) f cdv A outer s H E).nox eI (tOp (rI (fun _ j => 0 < j) fun i j => .int (i % j)) (tCall (spDraw K) [] E0 (tCons (tVar 0) (tCons (tC (.int 5)) tNil))) (tC (.int 8))) ∧ PlainIx eI ∧ plainE e0 = true ∧ plainE e1 = true ∧ plainE e2 = true ∧ plainE e3 = true ∧ plainE e4 = true ∧ plainE e5 = true ∧ plainE e6 = true ∧ plainE e7 = true :=
      ⟨_, _, _, _, _, _, _, _, _, _, _, _, _, rfl, pe_non, pe_int, pe_bl, pe_tupS (pa_c pe_str pa_nil), pe_lstS (pa_c pe_str pa_nil), pe_dnewS, pe_tupS (pa_c pe_str (pa_c pe_str pa_nil)), pe_un un_neg pe_int, pe_op op_mod (pe_fc FD hr (pa_c (pv 0) (pa_c pe_int pa_nil))) pe_int, fun _ _ => rfl, rfl, rfl, rfl, rfl, rfl, rfl, rfl, rfl⟩
    obtain ⟨t7, hS7, rest7⟩ : ∃ t, PSs (cxOf CX0 P w K mg base nLaw "law" (defScope sLaw) f cdv A outer s H E).nox ((defBody sLaw).drop 7) t ∧ ∀ (NL LL NT LB : Addr) (ls : List Ln) v5 v7 v8 (G2 : Hp), G2 LL = some (.lst ((ls.map lineT).map V.str)) → (∀ l ∈ ls, l.ok) → ls.length ≤ 12 → RfZ G2 NT true false 0 → G2 LB = some (.lst (badL.map V.str)) → Same H G2 →
        t { nx := fun _ H' => Q .non H', rt := Q } [some (.ref a), some (.ref NL), some (.ref LL), some (.str (txt ls)), some (.ref NT), v5, some (.ref LB), v7, v8, none, none, none] G2 := by
      rw [hB]
      refine ⟨_, pss_cons (ps_set (i := 9) scLaw.nd rfl (Or.inl rfl) (pe_ix ix_list (pe_lstS (@pa_c _ _ _ _ _ h0 (@pa_c _ _ _ _ _ h1 (@pa_c _ _ _ _ _ h2 (@pa_c _ _ _ _ _ h3 (@pa_c _ _ _ _ _ h4 (@pa_c _ _ _ _ _ h5 (@pa_c _ _ _ _ _ h6 (@pa_c _ _ _ _ _ h7 pa_nil w7) w6) w5) w4) w3) w2) w1) w0)) hI wI))
      (pss_cons (ps_if (PW.pt (pw_or (pt_cmpR (op_neD hr) (pe_fc FRf hr (pa_c (pv 9) (pa_c pe_bl pa_nil))) (pv 4) (nomark _)) (pw_or1 (pt_cmpR (op_neD hr) (pe_fc FRf hr (pa_c (pv 9) (pa_c pe_bl pa_nil))) (pv 4) (nomark _))))) (pss_one (ps_ret pe_bl)) pss_nil)
      (pss_cons (ps_if (PW.pt (pw_and (pt_cmpR op_eq (pe_op op_mod (pe_fc FD hr (pa_c (pv 0) (pa_c pe_int pa_nil))) pe_int) pe_int (nomark _)) (pw_and1 (pt_not (pt_val (pe_fc FBk hr (pa_c (pv 0) (pa_c (pv 6) pa_nil)))))))) (pss_one (ps_ret pe_bl)) pss_nil)
      hR)), fun NL LL NT LB ls v5 v7 v8 G2 hLLg hok h12 NZ2 hLBg sH => ?_⟩
      refine ⟨rfl, fun t1' G3 g1 ht1 => ⟨rfl, fun t2' G4 g2 ht2 => fun t3' G5 g3 ht3 => ⟨rfl, fun t4' G6 g4 ht4 => ⟨_, rfl, rfl, fun L8 G7 g5 hL8 => ?_⟩⟩⟩⟩
      have g27 : Same G2 G7 := Same.trans g1 (Same.trans g2 (Same.trans g3 (Same.trans g4 g5)))
      have s07 := Same.trans sH g27
      have th : ∀ j : Nat, j < 8 → ∃ v, [V.non, .int 3, .bl true, .ref t1', .ref t2', .ref t3', .ref t4', .int (-1)][j]? = some v ∧ NoTx G7 v := fun j hj => by
        match j, hj with
        | 0, _ => exact ⟨_, rfl, .inl rfl⟩
        | 1, _ => exact ⟨_, rfl, .inr (.inl ⟨_, rfl⟩)⟩
        | 2, _ => exact ⟨_, rfl, .inr (.inr (.inl ⟨_, rfl⟩))⟩
        | 3, _ => exact ⟨_, rfl, .inr (.inr (.inr (.inl ⟨_, _, rfl, g5 _ _ (g4 _ _ (g3 _ _ (g2 _ _ ht1)))⟩)))⟩
        | 4, _ => exact ⟨_, rfl, .inr (.inr (.inr (.inr (.inl ⟨_, _, rfl, g5 _ _ (g4 _ _ (g3 _ _ ht2))⟩))))⟩
        | 5, _ => exact ⟨_, rfl, .inr (.inr (.inr (.inr (.inr (.inl ⟨_, _, rfl, g5 _ _ (g4 _ _ ht3)⟩)))))⟩
        | 6, _ => exact ⟨_, rfl, .inr (.inr (.inr (.inl ⟨_, _, rfl, g5 _ _ ht4⟩)))⟩
        | 7, _ => exact ⟨_, rfl, .inr (.inl ⟨_, rfl⟩)⟩
      have j0 := mod_lo (n := draw ns 5) (p := 8) (by decide)
      have j1 := mod_hi (n := draw ns 5) (p := 8) (by decide)
      obtain ⟨j, hj⟩ : ∃ j : Nat, (j : Int) = draw ns 5 % 8 := ⟨(draw ns 5 % 8).toNat, by omega⟩
      obtain ⟨v, hv1, hv2⟩ := th j (by omega)
      have hat := atI_nat hv1
      rw [hj] at hat
      refine ⟨_, rfl, a, ns, _, rfl, s07.seq hS, hD, by decide, by decide, _, _, rfl, rfl, (by show (0 : Int) < 8; decide), L8, _, _, v, rfl, rfl, SqL.of hL8, hat, ?_⟩
      refine ⟨_, rfl, v, false, rfl, .inl ⟨hv2, fun G8 l8 g6 rz => ?_⟩⟩
      obtain ⟨xs, ys, x1, x2, x3, x4⟩ := RfZ.sam (K := K) rz (NZ2.keep (Same.trans g27 g6))
      refine ⟨_, rfl, l8, NT, xs, ys, rfl, rfl, .inr ⟨x1, x2⟩, x3, x4, _, rfl, iteF ?_⟩
      refine ⟨_, rfl, v, true, rfl, .inl ⟨hv2.keep g6, fun G9 l9 g7 rz9 => ?_⟩⟩
      have s29 := Same.trans g27 (Same.trans g6 g7)
      obtain ⟨xs, ys, x1, x2, x3, x4⟩ := RfZ.sam (K := K) rz9 (NZ2.keep s29)
      refine ⟨_, rfl, l9, NT, xs, ys, rfl, rfl, .inr ⟨x1, x2⟩, x3, x4, _, rfl, iteF ?_⟩
      have s09 := Same.trans sH s29
      refine ⟨_, rfl, a, ns, _, rfl, s09.seq hS, hD, by decide, by decide, _, _, rfl, rfl, (by show (0 : Int) < 8; decide), rfl, _, rfl, ite2 (fun _ => ?_) (fun _ => iteF (rest NL LL NT LB ls _ _ _ _ G9 (s29 _ _ hLLg) hok h12))⟩
      refine ⟨_, rfl, _, rfl, a, LB, ns, rfl, s09.seq hS, hD, s29 _ _ hLBg, fun G10 g8 => ⟨_, rfl, iteF ?_⟩⟩
      exact rest NL LL NT LB ls _ _ _ _ G10 (g8 _ _ (s29 _ _ hLLg)) hok h12
    obtain ⟨r7, hb7, hr7⟩ : ∃ r7, defBody sLaw = stAt 82 0 :: stAt 82 1 :: stAt 82 2 :: stAt 82 3 :: stAt 82 4 :: stAt 82 5 :: stAt 82 6 :: r7 ∧ (defBody sLaw).drop 7 = r7 := ⟨_, rfl, rfl⟩
    rw [hr7] at hS7
    rw [hb7]
    refine ⟨_, pss_cons (ps_set (i := 1) scLaw.nd rfl (Or.inl rfl) (pe_fc FN hr (pa_c (pv 0) (pa_c pe_int (pa_c (pe_op op_add pe_int (pe_op op_mod (pe_fc FD hr (pa_c (pv 0) (pa_c pe_int pa_nil))) pe_int)) pa_nil)))))
      (pss_cons (ps_set (i := 2) scLaw.nd rfl (Or.inl rfl) (pe_fc FT hr (pa_c (pv 0) (pa_c (pv 1) (pa_c (pe_op op_add pe_int (pe_op op_mod (pe_fc FD hr (pa_c (pv 0) (pa_c pe_int pa_nil))) pe_int)) pa_nil)))))
      (pss_cons (ps_set (i := 3) scLaw.nd rfl (Or.inl rfl) (pe_bm PySem.F.plainAttrs_str PySem.F.slot_str_join PySem.F.type_str_join mt_join pe_str (pa_c (pv 2) pa_nil)))
      (pss_cons (ps_set (i := 4) scLaw.nd rfl (Or.inl rfl) (pe_lstS (pa_c (pe_lstS (pa_c pe_bl (pa_c pe_bl (pa_c pe_bl (pa_c pe_bl pa_nil))))) (pa_c pe_int pa_nil))))
      (pss_cons (ps_for PassesOwn.never rfl (pi_range1 rfl T.range (pa_c pe_int pa_nil)) (pg_name (i := 5) scLaw.nd rfl (Or.inl rfl)) (pss_one (ps_if (pt_cmpR (op_neD hr) (pe_fc FRf hr (pa_c (pe_fc FSp hr (pa_c (pv 0) (pa_c (pv 3) (pa_c (pe_fc FD hr (pa_c (pv 0) (pa_c (pe_op op_add pe_int (pv 5)) pa_nil))) pa_nil)))) (pa_c (pe_cmpR op_eq (pe_op op_mod (pv 5) pe_int) pe_int (nomark _)) pa_nil))) (pv 4) (nomark _)) (pss_one (ps_ret pe_bl)) pss_nil)))
      (pss_cons (ps_set (i := 6) scLaw.nd rfl (Or.inl rfl) (pe_fc0 FB hr))
      (pss_cons (ps_for PassesOwn.never rfl (pi_range1 rfl T.range (pa_c pe_int pa_nil)) (pg_name (i := 5) scLaw.nd rfl (Or.inl rfl)) (pss_cons (ps_set (i := 7) scLaw.nd rfl (Or.inl rfl) (pe_op op_mod (pe_fc FD hr (pa_c (pv 0) (pa_c (pe_op op_add pe_int (pv 5)) pa_nil))) (pe_op op_add (pe_callB call_len_seq rfl T.len bLen (pa_c (pv 2) pa_nil)) pe_int))) (pss_cons (ps_set (i := 8) scLaw.nd rfl (Or.inl rfl) (pe_ix ix_list (pv 6) (pe_op op_mod (pe_op op_add (pe_fc FD hr (pa_c (pv 0) (pa_c pe_int pa_nil))) (pe_op op_mul pe_int (pv 5))) (pe_callB call_len_seq rfl T.len bLen (pa_c (pv 6) pa_nil))) (fun _ _ => rfl))) (pss_one (ps_if (pt_cmpR (op_neD hr) (pe_fc FRf hr (pa_c (pe_bm PySem.F.plainAttrs_str PySem.F.slot_str_join PySem.F.type_str_join mt_join pe_str (pa_c (pe_op op_catLS (pe_op op_catLS (pe_slice sl_list (pv 2) po_none (po_some (pv 7))) (pe_lstS (pa_c (pv 8) pa_nil))) (pe_slice sl_list (pv 2) (po_some (pv 7)) po_none)) pa_nil)) (pa_c (pe_cmpR op_eq (pe_op op_mod (pv 5) pe_int) pe_int (nomark _)) pa_nil))) (pv 4) (nomark _)) (pss_one (ps_ret pe_bl)) pss_nil)))))
      hS7)))))), ?_⟩
    refine ⟨_, rfl, _, rfl, a, ns, _, rfl, hS, hD, by decide, by decide, _, _, rfl, rfl, (by show (0 : Int) < 8; decide), _, _, rfl, rfl, a, ns, _, rfl, hS, hD, by have := mod_lo (n := draw ns 2) (p := 8) (by decide); omega, by have := mod_hi (n := draw ns 2) (p := 8) (by decide); omega, fun H1 NL u s1 hNL hn hnd h2 h22 => ?_⟩
    have t0 := mod_lo (n := draw ns 1) (p := 12) (by decide)
    have t1 := mod_hi (n := draw ns 1) (p := 12) (by decide)
    refine ⟨_, rfl, _, rfl, _, rfl, a, ns, _, rfl, s1.seq hS, hD, by decide, by decide, _, _, rfl, rfl, (by show (0 : Int) < 12; decide), _, _, rfl, rfl, a, NL, ns, _, u, rfl, s1.seq hS, hD, hNL, hn, hnd, h2, h22, by omega, by omega, fun H2 LL ls s2 hLL hok hlen => ?_⟩
    have h12 : ls.length ≤ 12 := by omega
    have hpos : 1 ≤ ls.length := by omega
    have hsum := sum_lines hok
    have hz := txt_len hok
    refine ⟨rfl, _, rfl, nln, LL, ls.map lineT, rfl, rfl, SqL.of hLL, (by decide +kernel), by rw [List.length_map]; omega, ?_⟩
    refine ⟨rfl, fun r1 H3 s3 hr1 => ⟨rfl, fun NT H4 s4 hNT => ?_⟩⟩
    have NZ : RfZ H4 NT true false 0 := ⟨r1, hNT, s4 _ _ hr1⟩
    have s24 := Same.trans s3 s4
    have s04 := Same.trans s1 (Same.trans s2 s24)
    refine ⟨5, rfl, by decide, by decide, for_range (lo := 0) (n := (5 : Int).toNat) (fun i σ G => (∃ v5, σ = [some (.ref a), some (.ref NL), some (.ref LL), some (.str (txt ls)), some (.ref NT), v5, none, none, none, none, none, none]) ∧ Same H4 G)
      ⟨⟨_, rfl⟩, Same.refl _⟩ (fun i σ G hi ⟨⟨v5, e⟩, sG⟩ => ?_) (fun σ G ⟨⟨v5, e⟩, sG⟩ => ?_)⟩
    · subst e
      rw [Int.zero_add]
      have hi' : i < 5 := hi
      refine ⟨_, rfl, _, rfl, _, rfl, _, rfl, _, _, rfl, rfl, a, ns, _, rfl, (Same.trans s04 sG).seq hS, hD, by omega, by omega, _, txt ls, _, rfl, by omega, draw_nn ns _, fun G1 y s5 hy hbad => ?_⟩
      refine ⟨_, rfl, _, _, rfl, rfl, (by show (0 : Int) < 2; decide), rfl, ?_⟩
      refine ⟨_, _, rfl, .inl ⟨.inr (.inr (.inr (.inr (.inr (.inr ⟨y, rfl, by omega, hbad⟩))))), fun G2 l2 s6 rz => ?_⟩⟩
      obtain ⟨xs, ys, x1, x2, x3, x4⟩ := RfZ.sam (K := K) rz (NZ.keep (Same.trans sG (Same.trans s5 s6)))
      exact ⟨_, rfl, l2, NT, xs, ys, rfl, rfl, .inr ⟨x1, x2⟩, x3, x4, _, rfl, iteF ⟨⟨_, rfl⟩, Same.trans sG (Same.trans s5 s6)⟩⟩
    subst e
    refine ⟨rfl, fun G1 LB s5 hLB => ?_⟩
    have s45 := Same.trans sG s5
    refine ⟨8, rfl, by decide, by decide, for_range (lo := 0) (n := (8 : Int).toNat) (fun i σ G => (∃ v5 v7 v8, σ = [some (.ref a), some (.ref NL), some (.ref LL), some (.str (txt ls)), some (.ref NT), v5, some (.ref LB), v7, v8, none, none, none]) ∧ Same G1 G)
      ⟨⟨_, _, _, rfl⟩, Same.refl _⟩ (fun i σ G2 hi ⟨⟨v5, v7, v8, e⟩, sG2⟩ => ?_) (fun σ G2 ⟨⟨v5, v7, v8, e⟩, sG2⟩ => ?_)⟩
    · subst e
      rw [Int.zero_add]
      have hi' : i < 8 := hi
      have s42 := Same.trans s45 sG2
      have s02 := Same.trans s04 s42
      have hLL2 := s42 _ _ (s24 _ _ hLL)
      have hLB2 := sG2 _ _ hLB
      have lln : (((ls.map lineT).map V.str).length : Int) = (ls.length : Int) := by rw [List.length_map, List.length_map]
      refine ⟨_, rfl, _, rfl, _, _, rfl, rfl, a, ns, _, rfl, s02.seq hS, hD, by omega, by omega, _, rfl, LL, _, rfl, .inl (SqL.of hLL2), _, _, rfl, rfl, _, _, rfl, rfl, (by show (0 : Int) < (((ls.map lineT).map V.str).length : Int) + 1; rw [lln]; omega), ?_⟩
      dsimp only [gName]
      rw [lln]
      have p0 := mod_lo (n := draw ns (70 + (i : Int))) (p := (ls.length : Int) + 1) (by omega)
      have p1 := mod_hi (n := draw ns (70 + (i : Int))) (p := (ls.length : Int) + 1) (by omega)
      obtain ⟨at', hat'⟩ : ∃ k : Nat, (k : Int) = draw ns (70 + (i : Int)) % ((ls.length : Int) + 1) := ⟨(draw ns (70 + (i : Int)) % ((ls.length : Int) + 1)).toNat, by omega⟩
      rw [← hat']
      have bl := bad_len
      have j0 := mod_lo (n := draw ns 4 + 5 * (i : Int)) (p := 35) (by decide)
      have j1 := mod_hi (n := draw ns 4 + 5 * (i : Int)) (p := 35) (by decide)
      obtain ⟨j, hj⟩ : ∃ j : Nat, (j : Int) = (draw ns 4 + 5 * (i : Int)) % 35 := ⟨((draw ns 4 + 5 * (i : Int)) % 35).toNat, by omega⟩
      have ll : ((badL.map V.str).length : Int) = 35 := by rw [List.length_map, bl]; rfl
      have hc := List.getElem?_eq_getElem (show j < badL.length by omega)
      have hm : badL[j] ∈ badL := List.getElem_mem _
      generalize badL[j] = b at hc hm
      have hat : atI (badL.map V.str) ((draw ns 4 + 5 * (i : Int)) % ((badL.map V.str).length : Int)) = some (.str b) := by
        rw [ll, ← hj]
        exact atI_nat (by rw [List.getElem?_map, hc]; rfl)
      refine ⟨_, rfl, _, rfl, a, ns, _, rfl, s02.seq hS, hD, by decide, by decide, _, rfl, _, _, rfl, rfl, .inl ⟨by decide, by decide⟩, _, _, rfl, rfl, _, rfl, LB, _, rfl, .inl (SqL.of hLB2), _, _, rfl, rfl, (by show (0 : Int) < ((badL.map V.str).length : Int); rw [ll]; decide), LB, _, _, .str b, rfl, rfl, SqL.of hLB2, hat, ?_⟩
      have c1 : cutV ((ls.map lineT).map V.str) none (some (at' : Int)) = ((ls.map lineT).take at').map V.str := by
        unfold cutV
        rw [HT.sIx_none, HT.sIx_nat, List.drop_zero, Nat.sub_zero, List.map_take]
        rw [List.length_map, List.length_map, Nat.min_eq_left (by omega)]
      have c2 : cutV ((ls.map lineT).map V.str) (some (at' : Int)) none = ((ls.map lineT).drop at').map V.str := by
        unfold cutV
        rw [HT.sIx_none, HT.sIx_nat, List.map_drop, List.length_map, List.length_map, Nat.min_eq_left (by omega)]
        exact List.take_of_length_le (by rw [List.length_drop, List.length_map, List.length_map]; exact Nat.le_refl _)
      obtain ⟨tp1, tp2⟩ := txt_put hok (fun e => by rw [e] at hpos; exact absurd hpos (by decide)) h12 hm at'
      refine ⟨rfl, _, rfl, _, rfl, _, rfl, LL, _, rfl, SqL.of hLL2, fun d1 hd1 => ?_⟩
      rw [c1]
      have e1 : Same G2 (upd G2 d1 (.lst (((ls.map lineT).take at').map V.str))) := same_new hd1
      refine ⟨_, rfl, rfl, fun d2 G3 s7 hd2 => ?_⟩
      refine ⟨d1, d2, _, _, rfl, rfl, s7 _ _ upd_same, hd2, by rw [List.length_map, List.length_take, List.length_map]; simp only [List.length_cons, List.length_nil]; omega, fun d3 G4 s8 hd3 => ?_⟩
      refine ⟨_, rfl, _, rfl, _, rfl, LL, _, rfl, SqL.of (s8 _ _ (s7 _ _ (e1 _ _ hLL2))), fun d4 hd4 => ?_⟩
      rw [c2]
      have e2 : Same G4 (upd G4 d4 (.lst (((ls.map lineT).drop at').map V.str))) := same_new hd4
      refine ⟨d3, d4, _, _, rfl, rfl, e2 _ _ hd3, upd_same, by rw [List.length_append, List.length_map, List.length_map, List.length_take, List.length_drop, List.length_map]; simp only [List.length_cons, List.length_nil]; omega, fun d5 G5 s9 hd5 => ?_⟩
      have hd5' : G5 d5 = some (.lst (((ls.map lineT).take at' ++ [b] ++ (ls.map lineT).drop at').map V.str)) := by rw [hd5, List.map_append, List.map_append]; rfl
      refine ⟨nln, d5, _, rfl, rfl, SqL.of hd5', (by decide +kernel), by omega, ?_⟩
      refine ⟨_, rfl, _, _, rfl, rfl, (by show (0 : Int) < 2; decide), rfl, ?_⟩
      have sAll : Same G2 G5 := Same.trans e1 (Same.trans s7 (Same.trans s8 (Same.trans e2 s9)))
      have jl := join_len nln ((ls.map lineT).take at' ++ [b] ++ (ls.map lineT).drop at')
      have n1 : nln.length = 1 := by decide +kernel
      rw [n1] at jl
      refine ⟨_, _, rfl, .inl ⟨.inr (.inr (.inr (.inr (.inr (.inr ⟨_, rfl, by omega, tp1⟩))))), fun G6 l2 s10 rz => ?_⟩⟩
      have s46 := Same.trans s42 (Same.trans sAll s10)
      obtain ⟨xs, ys, x1, x2, x3, x4⟩ := RfZ.sam (K := K) rz (NZ.keep s46)
      exact ⟨_, rfl, l2, NT, xs, ys, rfl, rfl, .inr ⟨x1, x2⟩, x3, x4, _, rfl, iteF ⟨⟨_, _, _, rfl⟩, Same.trans sG2 (Same.trans sAll s10)⟩⟩
    subst e
    have s42 := Same.trans s45 sG2
    exact rest7 NL LL NT LB ls v5 v7 v8 G2 (s42 _ _ (s24 _ _ hLL)) hok h12 (NZ.keep s42) (sG2 _ _ hLB) (Same.trans s04 s42)
end
end My
set_option Elab.async false
set_option linter.all false
set_option maxRecDepth 100000
set_option maxHeartbeats 4000000
namespace My
open PySem L2
theorem all_mk {l : PySem.W.OpenLaw} {w : World} {K : PySem.W.Frag} {h : Heap} {mg : Str → Option Value} {fa   cW f1 f2 f3 f4 f5 f6 f7 f8 f9 f10 f11 f12 f13 f14 f15 f16 f17 f18 f19 f20 f21 : Addr} (X : K.In h) (G : h.Ns mainGlobals mg) (hfa : mg "law" = some (.ref fa))
    {tA tB tC tD tE tF : Tok} {d9 : Addr} {oD : Value} {odD : Option Addr} {nD : Nat} {slD : Array (Option Value)} {cT1 cT2 cTE fI cN1 cN2 cN3 cN4 cN5 cN6 cN7 cM1 cM2 : Addr} {odI anI : Option Addr} {slI : Array (Option Value)} {ocI kVI dcI pmI cdI ctI : Value} {od1 an1 od2 an2 od3 an3 od4 an4 od5 an5 od6 an6 od7 an7 od8 an8 od9 an9 od10 an10 od11 an11 od12 an12 od13 an13 od14 an14 od15 an15 od16 an16 od17 an17 od18 an18 od19 an19 od20 an20 od21 an21 : Option Addr} {sl1 sl2 sl3 sl4 sl5 sl6 sl7 sl8 sl9 sl10 sl11 sl12 sl13 sl14 sl15 sl16 sl17 sl18 sl19 sl20 sl21 : Array (Option Value)} {oc1 kV1 dc1 pm1 cd1 ct1 oc2 kV2 dc2 pm2 cd2 ct2 oc3 kV3 dc3 pm3 cd3 ct3 oc4 kV4 dc4 pm4 cd4 ct4 oc5 kV5 dc5 pm5 cd5 ct5 oc6 kV6 dc6 pm6 cd6 ct6 oc7 kV7 dc7 pm7 cd7 ct7 oc8 kV8 dc8 pm8 cd8 ct8 oc9 kV9 dc9 pm9 cd9 ct9 oc10 kV10 dc10 pm10 cd10 ct10 oc11 kV11 dc11 pm11 cd11 ct11 oc12 kV12 dc12 pm12 cd12 ct12 oc13 kV13 dc13 pm13 cd13 ct13 oc14 kV14 dc14 pm14 cd14 ct14 oc15 kV15 dc15 pm15 cd15 ct15 oc16 kV16 dc16 pm16 cd16 ct16 oc17 kV17 dc17 pm17 cd17 ct17 oc18 kV18 dc18 pm18 cd18 ct18 oc19 kV19 dc19 pm19 cd19 ct19 oc20 kV20 dc20 pm20 cd20 ct20 oc21 kV21 dc21 pm21 cd21 ct21 : Value}
    (a1 : PySem.W.nsIn K mainGlobals "is_word" = some (some (.ref f1)))
    (l1 : K.lookup f1 = some ⟨oc1, od1, .func (PySem.W.fnOf "is_word" "is_word" (defArgs sWd) (defBody sWd) (defScope sWd) .none kV1 dc1 pm1 an1 cd1 ct1), sl1⟩)
    (c1' : PySem.W.codeIn K cd1 "is_word" = true)
    (k1 : PySem.W.keepIn K (.ref f1) = true)
    (a2 : PySem.W.nsIn K mainGlobals "is_name" = some (some (.ref f2)))
    (l2 : K.lookup f2 = some ⟨oc2, od2, .func (PySem.W.fnOf "is_name" "is_name" (defArgs sNm) (defBody sNm) (defScope sNm) .none kV2 dc2 pm2 an2 cd2 ct2), sl2⟩)
    (c2' : PySem.W.codeIn K cd2 "is_name" = true)
    (k2 : PySem.W.keepIn K (.ref f2) = true)
    (a3 : PySem.W.nsIn K mainGlobals "is_hour" = some (some (.ref f3)))
    (l3 : K.lookup f3 = some ⟨oc3, od3, .func (PySem.W.fnOf "is_hour" "is_hour" (defArgs sHo) (defBody sHo) (defScope sHo) .none kV3 dc3 pm3 an3 cd3 ct3), sl3⟩)
    (c3' : PySem.W.codeIn K cd3 "is_hour" = true)
    (k3 : PySem.W.keepIn K (.ref f3) = true)
    (a4 : PySem.W.nsIn K mainGlobals "is_meeting" = some (some (.ref f4)))
    (l4 : K.lookup f4 = some ⟨oc4, od4, .func (PySem.W.fnOf "is_meeting" "is_meeting" (defArgs sMg) (defBody sMg) (defScope sMg) .none kV4 dc4 pm4 an4 cd4 ct4), sl4⟩)
    (c4' : PySem.W.codeIn K cd4 "is_meeting" = true)
    (k4 : PySem.W.keepIn K (.ref f4) = true)
    (a5 : PySem.W.nsIn K mainGlobals "rows_of" = some (some (.ref f5)))
    (l5 : K.lookup f5 = some ⟨oc5, od5, .func (PySem.W.fnOf "rows_of" "rows_of" (defArgs sRo) (defBody sRo) (defScope sRo) .none kV5 dc5 pm5 an5 cd5 ct5), sl5⟩)
    (c5' : PySem.W.codeIn K cd5 "rows_of" = true)
    (k5 : PySem.W.keepIn K (.ref f5) = true)
    (a6 : PySem.W.nsIn K mainGlobals "places_with" = some (some (.ref f6)))
    (l6 : K.lookup f6 = some ⟨oc6, od6, .func (PySem.W.fnOf "places_with" "places_with" (defArgs sPw) (defBody sPw) (defScope sPw) .none kV6 dc6 pm6 an6 cd6 ct6), sl6⟩)
    (c6' : PySem.W.codeIn K cd6 "places_with" = true)
    (k6 : PySem.W.keepIn K (.ref f6) = true)
    (a7 : PySem.W.nsIn K mainGlobals "read" = some (some (.ref f7)))
    (l7 : K.lookup f7 = some ⟨oc7, od7, .func (PySem.W.fnOf "read" "read" (defArgs sRd) (defBody sRd) (defScope sRd) .none kV7 dc7 pm7 an7 cd7 ct7), sl7⟩)
    (c7' : PySem.W.codeIn K cd7 "read" = true)
    (k7 : PySem.W.keepIn K (.ref f7) = true)
    (a8 : PySem.W.nsIn K mainGlobals "way_or_manifold" = some (some (.ref f8)))
    (l8 : K.lookup f8 = some ⟨oc8, od8, .func (PySem.W.fnOf "way_or_manifold" "way_or_manifold" (defArgs sWm) (defBody sWm) (defScope sWm) .none kV8 dc8 pm8 an8 cd8 ct8), sl8⟩)
    (c8' : PySem.W.codeIn K cd8 "way_or_manifold" = true)
    (k8 : PySem.W.keepIn K (.ref f8) = true)
    (a9 : PySem.W.nsIn K mainGlobals "settled" = some (some (.ref f9)))
    (l9 : K.lookup f9 = some ⟨oc9, od9, .func (PySem.W.fnOf "settled" "settled" (defArgs sSt) (defBody sSt) (defScope sSt) (.ref d9) kV9 dc9 pm9 an9 cd9 ct9), sl9⟩)
    (c9' : PySem.W.codeIn K cd9 "settled" = true)
    (k9 : PySem.W.keepIn K (.ref f9) = true)
    (a10 : PySem.W.nsIn K mainGlobals "_law_draw" = some (some (.ref f10)))
    (l10 : K.lookup f10 = some ⟨oc10, od10, .func (PySem.W.fnOf "_law_draw" "_law_draw" (defArgs sDraw) (defBody sDraw) (defScope sDraw) .none kV10 dc10 pm10 an10 cd10 ct10), sl10⟩)
    (c10' : PySem.W.codeIn K cd10 "_law_draw" = true)
    (k10 : PySem.W.keepIn K (.ref f10) = true)
    (a11 : PySem.W.nsIn K mainGlobals "_law_word" = some (some (.ref f11)))
    (l11 : K.lookup f11 = some ⟨oc11, od11, .func (PySem.W.fnOf "_law_word" "_law_word" (defArgs sWo) (defBody sWo) (defScope sWo) .none kV11 dc11 pm11 an11 cd11 ct11), sl11⟩)
    (c11' : PySem.W.codeIn K cd11 "_law_word" = true)
    (k11 : PySem.W.keepIn K (.ref f11) = true)
    (a12 : PySem.W.nsIn K mainGlobals "_law_names" = some (some (.ref f12)))
    (l12 : K.lookup f12 = some ⟨oc12, od12, .func (PySem.W.fnOf "_law_names" "_law_names" (defArgs sNs) (defBody sNs) (defScope sNs) .none kV12 dc12 pm12 an12 cd12 ct12), sl12⟩)
    (c12' : PySem.W.codeIn K cd12 "_law_names" = true)
    (k12 : PySem.W.keepIn K (.ref f12) = true)
    (a13 : PySem.W.nsIn K mainGlobals "_law_kinds" = some (some (.ref f13)))
    (l13 : K.lookup f13 = some ⟨oc13, od13, .func (PySem.W.fnOf "_law_kinds" "_law_kinds" (defArgs sKi) (defBody sKi) (defScope sKi) .none kV13 dc13 pm13 an13 cd13 ct13), sl13⟩)
    (c13' : PySem.W.codeIn K cd13 "_law_kinds" = true)
    (k13 : PySem.W.keepIn K (.ref f13) = true)
    (a14 : PySem.W.nsIn K mainGlobals "_law_refused" = some (some (.ref f14)))
    (l14 : K.lookup f14 = some ⟨oc14, od14, .func (PySem.W.fnOf "_law_refused" "_law_refused" (defArgs sRf) (defBody sRf) (defScope sRf) .none kV14 dc14 pm14 an14 cd14 ct14), sl14⟩)
    (c14' : PySem.W.codeIn K cd14 "_law_refused" = true)
    (k14 : PySem.W.keepIn K (.ref f14) = true)
    (a15 : PySem.W.nsIn K mainGlobals "_law_text" = some (some (.ref f15)))
    (l15 : K.lookup f15 = some ⟨oc15, od15, .func (PySem.W.fnOf "_law_text" "_law_text" (defArgs sTx) (defBody sTx) (defScope sTx) .none kV15 dc15 pm15 an15 cd15 ct15), sl15⟩)
    (c15' : PySem.W.codeIn K cd15 "_law_text" = true)
    (k15 : PySem.W.keepIn K (.ref f15) = true)
    (a16 : PySem.W.nsIn K mainGlobals "_law_bad_lines" = some (some (.ref f16)))
    (l16 : K.lookup f16 = some ⟨oc16, od16, .func (PySem.W.fnOf "_law_bad_lines" "_law_bad_lines" (defArgs sBl) (defBody sBl) (defScope sBl) .none kV16 dc16 pm16 an16 cd16 ct16), sl16⟩)
    (c16' : PySem.W.codeIn K cd16 "_law_bad_lines" = true)
    (k16 : PySem.W.keepIn K (.ref f16) = true)
    (a17 : PySem.W.nsIn K mainGlobals "_law_spoiled" = some (some (.ref f17)))
    (l17 : K.lookup f17 = some ⟨oc17, od17, .func (PySem.W.fnOf "_law_spoiled" "_law_spoiled" (defArgs sSp) (defBody sSp) (defScope sSp) .none kV17 dc17 pm17 an17 cd17 ct17), sl17⟩)
    (c17' : PySem.W.codeIn K cd17 "_law_spoiled" = true)
    (k17 : PySem.W.keepIn K (.ref f17) = true)
    (a18 : PySem.W.nsIn K mainGlobals "_law_ring" = some (some (.ref f18)))
    (l18 : K.lookup f18 = some ⟨oc18, od18, .func (PySem.W.fnOf "_law_ring" "_law_ring" (defArgs sRi) (defBody sRi) (defScope sRi) .none kV18 dc18 pm18 an18 cd18 ct18), sl18⟩)
    (c18' : PySem.W.codeIn K cd18 "_law_ring" = true)
    (k18 : PySem.W.keepIn K (.ref f18) = true)
    (a19 : PySem.W.nsIn K mainGlobals "_law_great" = some (some (.ref f19)))
    (l19 : K.lookup f19 = some ⟨oc19, od19, .func (PySem.W.fnOf "_law_great" "_law_great" (defArgs sGr) (defBody sGr) (defScope sGr) .none kV19 dc19 pm19 an19 cd19 ct19), sl19⟩)
    (c19' : PySem.W.codeIn K cd19 "_law_great" = true)
    (k19 : PySem.W.keepIn K (.ref f19) = true)
    (a20 : PySem.W.nsIn K mainGlobals "_law_bounds_kept" = some (some (.ref f20)))
    (l20 : K.lookup f20 = some ⟨oc20, od20, .func (PySem.W.fnOf "_law_bounds_kept" "_law_bounds_kept" (defArgs sBk) (defBody sBk) (defScope sBk) .none kV20 dc20 pm20 an20 cd20 ct20), sl20⟩)
    (c20' : PySem.W.codeIn K cd20 "_law_bounds_kept" = true)
    (k20 : PySem.W.keepIn K (.ref f20) = true)
    (a21 : PySem.W.nsIn K mainGlobals "law" = some (some (.ref f21)))
    (l21 : K.lookup f21 = some ⟨oc21, od21, .func (PySem.W.fnOf "law" "law" (defArgs sLaw) (defBody sLaw) (defScope sLaw) .none kV21 dc21 pm21 an21 cd21 ct21), sl21⟩)
    (c21' : PySem.W.codeIn K cd21 "law" = true)
    (k21 : PySem.W.keepIn K (.ref f21) = true)
    (aW : PySem.W.nsIn K mainGlobals "Way" = some (some (.ref cW)))
    (pgW : PySem.W.plainGet K cW Str.empty = true)
    (hdW : PySem.W.hasDictIn K cW = true)
    (poW : PySem.W.plainOver K cW = true)
    (saW : PySem.W.findIn K (.ref cW) "__setattr__" = some (some (.builtin "object.__setattr__")))
    (mkW : PySem.W.makesIn K cW = true)
    (inW : PySem.W.findIn K (.ref cW) "__init__" = some (some (.builtin "object.__init__")))
    (kcW : PySem.W.keepIn K (.ref cW) = true)
    (hdl9 : K.lookup d9 = some ⟨oD, odD, .seq #[.none] nD, slD⟩)
    (zP : PySem.W.nsIn K mainGlobals "MOST_POINTS" = some (some (.int 60 tA)))
    (zT : PySem.W.nsIn K mainGlobals "MOST_TIES" = some (some (.int 200 tB)))
    (zL : PySem.W.nsIn K mainGlobals "LETTERS" = some (some (.str Tx.letters tC)))
    (zF : PySem.W.nsIn K mainGlobals "FIGURES" = some (some (.str Tx.figures tD)))
    (zM : PySem.W.nsIn K mainGlobals "MOST_LETTERS" = some (some (.int 8 tE)))
    (zN : PySem.W.nsIn K mainGlobals "MOST_FIGURES" = some (some (.int 3 tF)))
    (aT1 : PySem.W.nsIn K mainGlobals "NoText" = some (some (.ref cT1)))
    (aT2 : PySem.W.nsIn K mainGlobals "TooGreat" = some (some (.ref cT2)))
    (aTE : PySem.W.nsIn K mainGlobals "TintError" = some (some (.ref cTE)))
    (aN1 : PySem.W.nsIn K mainGlobals "NoMeeting" = some (some (.ref cN1)))
    (aN2 : PySem.W.nsIn K mainGlobals "NoName" = some (some (.ref cN2)))
    (aN3 : PySem.W.nsIn K mainGlobals "NoStep" = some (some (.ref cN3)))
    (aN4 : PySem.W.nsIn K mainGlobals "NoTie" = some (some (.ref cN4)))
    (aN5 : PySem.W.nsIn K mainGlobals "NotAlike" = some (some (.ref cN5)))
    (aN6 : PySem.W.nsIn K mainGlobals "NotClean" = some (some (.ref cN6)))
    (aN7 : PySem.W.nsIn K mainGlobals "NotPlain" = some (some (.ref cN7)))
    (aM1 : PySem.W.nsIn K mainGlobals "NotTwoSided" = some (some (.ref cM1)))
    (aM2 : PySem.W.nsIn K mainGlobals "TooFew" = some (some (.ref cM2)))
    (hCxcT1 : RX.xcIn K cT1 cTE = true)
    (kpT1 : PySem.W.keepIn K (.ref cT1) = true)
    (xg1T1 : PySem.W.findIn K (.ref cT1) "__getattribute__" = some (some (.builtin "BaseException.__getattribute__")))
    (xg2T1 : PySem.W.findIn K (.ref cT1) "__getattr__" = some none)
    (xg3T1 : PySem.W.hasDictIn K cT1 = true)
    (hCx4T1 : PySem.W.mroIn K cT1 (.type "BaseException") = some true)
    (hCx5T1 : PySem.W.mroIn K cT1 (.type "object") = some true)
    (xg6T1 : PySem.W.findIn K (.ref cT1) "__class__" = some (some (.builtin "object.__class__")))
    (hCkvT1 : PySem.W.kitOne K (.ref cT1) (.type "ValueError") = some true)
    (hCkmT1 : PySem.W.kitAny K (.ref cT1) [.ref cM1, .ref cM2] = some false)
    (hCkN1T1 : PySem.W.kitOne K (.ref cT1) (.ref cN1) = some false)
    (hCkN2T1 : PySem.W.kitOne K (.ref cT1) (.ref cN2) = some false)
    (hCkN3T1 : PySem.W.kitOne K (.ref cT1) (.ref cN3) = some false)
    (hCkN4T1 : PySem.W.kitOne K (.ref cT1) (.ref cN4) = some false)
    (hCkN5T1 : PySem.W.kitOne K (.ref cT1) (.ref cN5) = some false)
    (hCkN6T1 : PySem.W.kitOne K (.ref cT1) (.ref cN6) = some false)
    (hCkN7T1 : PySem.W.kitOne K (.ref cT1) (.ref cN7) = some false)
    (hCktT1 : PySem.W.kitOne K (.ref cT1) (.ref cT1) = some true)
    (hCkgT1 : PySem.W.kitOne K (.ref cT1) (.ref cT2) = some false)
    (hCxcT2 : RX.xcIn K cT2 cTE = true)
    (kpT2 : PySem.W.keepIn K (.ref cT2) = true)
    (xg1T2 : PySem.W.findIn K (.ref cT2) "__getattribute__" = some (some (.builtin "BaseException.__getattribute__")))
    (xg2T2 : PySem.W.findIn K (.ref cT2) "__getattr__" = some none)
    (xg3T2 : PySem.W.hasDictIn K cT2 = true)
    (hCx4T2 : PySem.W.mroIn K cT2 (.type "BaseException") = some true)
    (hCx5T2 : PySem.W.mroIn K cT2 (.type "object") = some true)
    (xg6T2 : PySem.W.findIn K (.ref cT2) "__class__" = some (some (.builtin "object.__class__")))
    (hCkvT2 : PySem.W.kitOne K (.ref cT2) (.type "ValueError") = some true)
    (hCkmT2 : PySem.W.kitAny K (.ref cT2) [.ref cM1, .ref cM2] = some false)
    (hCkN1T2 : PySem.W.kitOne K (.ref cT2) (.ref cN1) = some false)
    (hCkN2T2 : PySem.W.kitOne K (.ref cT2) (.ref cN2) = some false)
    (hCkN3T2 : PySem.W.kitOne K (.ref cT2) (.ref cN3) = some false)
    (hCkN4T2 : PySem.W.kitOne K (.ref cT2) (.ref cN4) = some false)
    (hCkN5T2 : PySem.W.kitOne K (.ref cT2) (.ref cN5) = some false)
    (hCkN6T2 : PySem.W.kitOne K (.ref cT2) (.ref cN6) = some false)
    (hCkN7T2 : PySem.W.kitOne K (.ref cT2) (.ref cN7) = some false)
    (hCktT2 : PySem.W.kitOne K (.ref cT2) (.ref cT1) = some false)
    (hCkgT2 : PySem.W.kitOne K (.ref cT2) (.ref cT2) = some true)
    (xg7 : PySem.W.specialIn K (.builtin "object.__class__") "__get__" = some (some (.builtin "getset_descriptor.__get__")))
    (xg8 : PySem.W.takesIn K (.builtin "object.__class__") = some true)
    (hCxn : RX.xnIn K cT1 = true)
    (saT2 : PySem.W.findIn K (.ref cT2) "__setattr__" = some (some (.builtin "object.__setattr__")))
    (inT2 : PySem.W.findIn K (.ref cT2) "__init__" = some (some (.ref fI)))
    (ifT2 : PySem.W.isFn K (.ref fI) = true)
    (lI : K.lookup fI = some ⟨ocI, odI, .func (PySem.W.fnOf "__init__" "TooGreat.__init__" (defArgs sTg) (defBody sTg) (defScope sTg) .none kVI dcI pmI anI cdI ctI), slI⟩)
    (cI' : PySem.W.codeIn K cdI "TooGreat.__init__" = true)
    (kI : PySem.W.keepIn K (.ref fI) = true)
    (neT2 : PySem.W.findIn K (.ref cT2) "most" = some none)
    (hCq1 : PySem.W.kitCls K (.ref cT1) (.ref cT2) = some false)
    (hCq2 : PySem.W.kitCls K (.ref cT1) (.ref cTE) = some true)
    (hCq3 : PySem.W.kitCls K (.ref cT2) (.ref cT2) = some true)
    (hCq4 : PySem.W.mroIn K cTE (.type "BaseException") = some true)
    (zV : PySem.W.nsIn K mainGlobals "ValueError" = some none)
    (z1 : PySem.W.nsIn K mainGlobals "len" = some none)
    (z2 : PySem.W.nsIn K mainGlobals "isinstance" = some none)
    (z3 : PySem.W.nsIn K mainGlobals "int" = some none)
    (z4 : PySem.W.nsIn K mainGlobals "bool" = some none)
    (z5 : PySem.W.nsIn K mainGlobals "tuple" = some none)
    (z6 : PySem.W.nsIn K mainGlobals "list" = some none)
    (z7 : PySem.W.nsIn K mainGlobals "range" = some none)
    (z8 : PySem.W.nsIn K mainGlobals "max" = some none)
    (z9 : PySem.W.nsIn K mainGlobals "min" = some none)
    (z10 : PySem.W.nsIn K mainGlobals "zip" = some none)
    (z11 : PySem.W.nsIn K mainGlobals "dict" = some none)
    (z12 : PySem.W.nsIn K mainGlobals "all" = some none)
    (z13 : PySem.W.nsIn K mainGlobals "str" = some none)
    (z14 : PySem.W.nsIn K mainGlobals "set" = some none)
    : ∃ fd : FuncData, (∀ (s : Shared) (v : Value), BindsTo s fd ⟨[v], []⟩ [("_law_script", v)]) ∧ ∀ base : Heap, K.In base → base.Ns mainGlobals mg → FnOk l.prog w K mg base CX0 9 fa fd ["_law_script"] (spLaw K) := by
  have e := hfa.symm.trans (PySem.W.mg_of X G a21)
  cases e
  have F1 := fun_mk (st := sWd) l1 c1' k1
  have F2 := fun_mk (st := sNm) l2 c2' k2
  have F3 := fun_mk (st := sHo) l3 c3' k3
  have F4 := fun_mk (st := sMg) l4 c4' k4
  have F5 := fun_mk (st := sRo) l5 c5' k5
  have F6 := fun_mk (st := sPw) l6 c6' k6
  have F7 := fun_mk (st := sRd) l7 c7' k7
  have F8 := fun_mk (st := sWm) l8 c8' k8
  have F9 : FunD K "settled" "settled" sSt f9 _ := ⟨⟨oc9, od9, .ref d9, kV9, dc9, pm9, an9, cd9, ct9, sl9, rfl, l9, c9'⟩⟩
  have F10 := fun_mk (st := sDraw) l10 c10' k10
  have F11 := fun_mk (st := sWo) l11 c11' k11
  have F12 := fun_mk (st := sNs) l12 c12' k12
  have F13 := fun_mk (st := sKi) l13 c13' k13
  have F14 := fun_mk (st := sRf) l14 c14' k14
  have F15 := fun_mk (st := sTx) l15 c15' k15
  have F16 := fun_mk (st := sBl) l16 c16' k16
  have F17 := fun_mk (st := sSp) l17 c17' k17
  have F18 := fun_mk (st := sRi) l18 c18' k18
  have F19 := fun_mk (st := sGr) l19 c19' k19
  have F20 := fun_mk (st := sBk) l20 c20' k20
  have F21 := fun_mk (st := sLaw) l21 c21' k21
  have b1 := F1.binds (ps := ["thing", "signs", "most"]) fun _ _ _ _ _ _ us hl => match us, hl with | [_, _, _], _ => rfl
  have b2 := F2.binds (ps := ["thing"]) fun _ _ _ _ _ _ us hl => match us, hl with | [_], _ => rfl
  have b3 := F3.binds (ps := ["word"]) fun _ _ _ _ _ _ us hl => match us, hl with | [_], _ => rfl
  have b4 := F4.binds (ps := ["words"]) fun _ _ _ _ _ _ us hl => match us, hl with | [_], _ => rfl
  have b5 := F5.binds (ps := ["text"]) fun _ _ _ _ _ _ us hl => match us, hl with | [_], _ => rfl
  have b6 := F6.binds (ps := ["places", "names"]) fun _ _ _ _ _ _ us hl => match us, hl with | [_, _], _ => rfl
  have b7 := F7.binds (ps := ["text"]) fun _ _ _ _ _ _ us hl => match us, hl with | [_], _ => rfl
  have b8 := F8.binds (ps := ["way"]) fun _ _ _ _ _ _ us hl => match us, hl with | [_], _ => rfl
  have b9 : Binds K (PySem.W.fnOf "settled" "settled" (defArgs sSt) (defBody sSt) (defScope sSt) (.ref d9) kV9 dc9 pm9 an9 cd9 ct9) ["text", "way"] [] := fun s us X hl => by
    rw [List.append_nil] at hl ⊢
    match us, hl with
    | [u0, u1], _ => exact PySem.W.binds_K X rfl hdl9 rfl rfl rfl
  have b10 := F10.binds (ps := ["_law_script", "_law_k"]) fun _ _ _ _ _ _ us hl => match us, hl with | [_, _], _ => rfl
  have b11 := F11.binds (ps := ["_law_number"]) fun _ _ _ _ _ _ us hl => match us, hl with | [_], _ => rfl
  have b12 := F12.binds (ps := ["_law_script", "_law_at", "_law_many"]) fun _ _ _ _ _ _ us hl => match us, hl with | [_, _, _], _ => rfl
  have b13 := F13.binds (ps := ["_law_e"]) fun _ _ _ _ _ _ us hl => match us, hl with | [_], _ => rfl
  have b14 := F14.binds (ps := ["_law_thing", "_law_whole"]) fun _ _ _ _ _ _ us hl => match us, hl with | [_, _], _ => rfl
  have b15 := F15.binds (ps := ["_law_script", "_law_names_here", "_law_many"]) fun _ _ _ _ _ _ us hl => match us, hl with | [_, _, _], _ => rfl
  have b16 := F16.binds (ps := []) fun _ _ _ _ _ _ us hl => match us, hl with | [], _ => rfl
  have b17 := F17.binds (ps := ["_law_script", "_law_text_here", "_law_number"]) fun _ _ _ _ _ _ us hl => match us, hl with | [_, _, _], _ => rfl
  have b18 := F18.binds (ps := ["_law_many", "_law_rows"]) fun _ _ _ _ _ _ us hl => match us, hl with | [_, _], _ => rfl
  have b19 := F19.binds (ps := ["_law_script"]) fun _ _ _ _ _ _ us hl => match us, hl with | [_], _ => rfl
  have b20 := F20.binds (ps := ["_law_script", "_law_bad"]) fun _ _ _ _ _ _ us hl => match us, hl with | [_, _], _ => rfl
  have CW : Cls K cW := ⟨pgW, hdW, poW, saW⟩
  have mW : Mk0 K cW := ⟨mkW, inW, kcW⟩
  have gW := PySem.W.mg_of X G aW
  have T : Bi mg := ⟨PySem.W.mg_none_of X G z1, PySem.W.mg_none_of X G z2, PySem.W.mg_none_of X G z3, PySem.W.mg_none_of X G z4, PySem.W.mg_none_of X G z5, PySem.W.mg_none_of X G z6, PySem.W.mg_none_of X G z7, PySem.W.mg_none_of X G z8, PySem.W.mg_none_of X G z9, PySem.W.mg_none_of X G z10, PySem.W.mg_none_of X G z11⟩
  have g1 := PySem.W.mg_of X G a1
  have g2 := PySem.W.mg_of X G a2
  have g3 := PySem.W.mg_of X G a3
  have g4 := PySem.W.mg_of X G a4
  have g5 := PySem.W.mg_of X G a5
  have g6 := PySem.W.mg_of X G a6
  have g7 := PySem.W.mg_of X G a7
  have g8 := PySem.W.mg_of X G a8
  have g9 := PySem.W.mg_of X G a9
  have g10 := PySem.W.mg_of X G a10
  have g11 := PySem.W.mg_of X G a11
  have g12 := PySem.W.mg_of X G a12
  have g13 := PySem.W.mg_of X G a13
  have g14 := PySem.W.mg_of X G a14
  have g15 := PySem.W.mg_of X G a15
  have g16 := PySem.W.mg_of X G a16
  have g17 := PySem.W.mg_of X G a17
  have g18 := PySem.W.mg_of X G a18
  have g19 := PySem.W.mg_of X G a19
  have g20 := PySem.W.mg_of X G a20
  refine ⟨PySem.W.fnOf "law" "law" (defArgs sLaw) (defBody sLaw) (defScope sLaw) .none kV21 dc21 pm21 an21 cd21 ct21, fun s v => .of_eq rfl, fun base _ _ => ?_⟩
  have E1 : FnE l.prog w K mg base "is_word" ["thing", "signs", "most"] 1 spWd := ⟨⟨f1, _, ok_wd F1 T (PySem.W.mg_none_of X G z12), g1, k1, b1⟩⟩
  have E2 : FnE l.prog w K mg base "is_name" ["thing"] 2 spNm := ⟨⟨f2, _, ok_nm F2 T (PySem.W.mg_none_of X G z13) (PySem.W.mg_of X G zL) (PySem.W.mg_of X G zM) E1, g2, k2, b2⟩⟩
  have E3 : FnE l.prog w K mg base "is_hour" ["word"] 2 spHo := ⟨⟨f3, _, ok_ho F3 (PySem.W.mg_of X G zF) (PySem.W.mg_of X G zN) E1, g3, k3, b3⟩⟩
  have E4 : FnE l.prog w K mg base "is_meeting" ["words"] 3 (spMg K) := ⟨⟨f4, _, ok_mg F4 T E2 E3, g4, k4, b4⟩⟩
  have E5 : FnE l.prog w K mg base "rows_of" ["text"] 1 spRo := ⟨⟨f5, _, ok_ro F5 T, g5, k5, b5⟩⟩
  have E6 : FnE l.prog w K mg base "places_with" ["places", "names"] 1 spPw := ⟨⟨f6, _, ok_pw F6 T T.dict, g6, k6, b6⟩⟩
  have E7 : FnE l.prog w K mg base "read" ["text"] 5 spRd := ⟨⟨f7, _, ok_rd F7 T (PySem.W.mg_none_of X G z13) (PySem.W.mg_none_of X G z12) (PySem.W.mg_of X G zP) (PySem.W.mg_of X G zT) (E5.mono (by decide)) (E4.mono (by decide)) (E6.mono (by decide)), g7, k7, b7⟩⟩
  have E8 : FnE l.prog w K mg base "way_or_manifold" ["way"] 1 spWm := ⟨⟨f8, _, ok_wm F8, g8, k8, b8⟩⟩
  have E10 : FnE l.prog w K mg base "_law_draw" ["_law_script", "_law_k"] 1 (spDraw K) := ⟨⟨f10, _, ok_draw F10 T, g10, k10, b10⟩⟩
  have E11 : FnE l.prog w K mg base "_law_word" ["_law_number"] 1 spWo := ⟨⟨f11, _, ok_wo F11, g11, k11, b11⟩⟩
  have E12 : FnE l.prog w K mg base "_law_names" ["_law_script", "_law_at", "_law_many"] 2 (spNs K) := ⟨⟨f12, _, ok_ns F12 T E10 E11, g12, k12, b12⟩⟩
  have FI := fun_mk (st := sTg) lI cI' kI
  have bI := FI.binds (ps := ["self", "most"]) fun _ _ _ _ _ _ us hl => match us, hl with | [_, _], _ => rfl
  have gT1 := (PySem.W.mg_of X G aT1)
  have gT2 := (PySem.W.mg_of X G aT2)
  have XC : RX.XCl K cT2 cTE := ⟨hCxcT2, saT2, kpT2⟩
  have K1 : Kinds K mg cT1 true false := ⟨⟨cN1, cN2, cN3, cN4, cN5, cN6, cN7, cM1, cM2, cT1, cT2, (PySem.W.mg_of X G aN1), (PySem.W.mg_of X G aN2), (PySem.W.mg_of X G aN3), (PySem.W.mg_of X G aN4), (PySem.W.mg_of X G aN5), (PySem.W.mg_of X G aN6), (PySem.W.mg_of X G aN7), (PySem.W.mg_of X G aM1), (PySem.W.mg_of X G aM2), (PySem.W.mg_of X G aT1), (PySem.W.mg_of X G aT2), hCkN1T1, hCkN2T1, hCkN3T1, hCkN4T1, hCkN5T1, hCkN6T1, hCkN7T1, hCkmT1, hCktT1, hCkgT1⟩, hCkvT1, PySem.W.mg_none_of X G zV, ⟨xg1T1, xg2T1, xg3T1, hCx4T1, hCx5T1, xg6T1, xg7, xg8⟩⟩
  have K2 : Kinds K mg cT2 false true := ⟨⟨cN1, cN2, cN3, cN4, cN5, cN6, cN7, cM1, cM2, cT1, cT2, (PySem.W.mg_of X G aN1), (PySem.W.mg_of X G aN2), (PySem.W.mg_of X G aN3), (PySem.W.mg_of X G aN4), (PySem.W.mg_of X G aN5), (PySem.W.mg_of X G aN6), (PySem.W.mg_of X G aN7), (PySem.W.mg_of X G aM1), (PySem.W.mg_of X G aM2), (PySem.W.mg_of X G aT1), (PySem.W.mg_of X G aT2), hCkN1T2, hCkN2T2, hCkN3T2, hCkN4T2, hCkN5T2, hCkN6T2, hCkN7T2, hCkmT2, hCktT2, hCkgT2⟩, hCkvT2, PySem.W.mg_none_of X G zV, ⟨xg1T2, xg2T2, xg3T2, hCx4T2, hCx5T2, xg6T2, xg7, xg8⟩⟩
  have ON := ok_rdN (P := l.prog) (w := w) (base := base) F7 T (PySem.W.mg_none_of X G z13) (PySem.W.mg_none_of X G z12) (E5.mono (by decide)) (E4.mono (by decide)) hCxcT1 hCxn kpT1 gT1
  have OG := ok_rdG (P := l.prog) (w := w) (base := base) F7 T (PySem.W.mg_none_of X G z13) (PySem.W.mg_none_of X G z12) (PySem.W.mg_of X G zP) (PySem.W.mg_of X G zT) (E5.mono (by decide)) (E4.mono (by decide)) (E6.mono (by decide)) XC inT2 ifT2 ((ok_tg FI XC neT2).mono (by decide)) bI gT2
  have ORX := ok_rdX ON OG
  have OSX := ok_st (P := l.prog) (w := w) (base := base) F9 (E8.mono (by decide)) ORX g7 k7 b7
  have OK := ok_ki (P := l.prog) (w := w) (base := base) F13 T
  have E14 : FnE l.prog w K mg base "_law_refused" ["_law_thing", "_law_whole"] 7 spRf := ⟨⟨f14, _, ok_rf F14 T K1 K2 gT2 (PySem.W.mg_of X G aTE) gW mW hCx4T2 hCq4 hCq1 hCq2 hCq3 neT2 OSX g9 k9 b9 (ORX.mono (by decide)) g7 k7 b7 OK g13 k13 b13, g14, k14, b14⟩⟩
  have E15 : FnE l.prog w K mg base "_law_text" ["_law_script", "_law_names_here", "_law_many"] 2 (spTx K) := ⟨⟨f15, _, ok_tx F15 T (PySem.W.mg_none_of X G z13) E10, g15, k15, b15⟩⟩
  have E16 : FnE l.prog w K mg base "_law_bad_lines" [] 1 spBl := ⟨⟨f16, _, ok_bl F16, g16, k16, b16⟩⟩
  have E17 : FnE l.prog w K mg base "_law_spoiled" ["_law_script", "_law_text_here", "_law_number"] 1 spSp := ⟨⟨f17, _, ok_sp F17 T, g17, k17, b17⟩⟩
  have E18 : FnE l.prog w K mg base "_law_ring" ["_law_many", "_law_rows"] 1 spRi := ⟨⟨f18, _, ok_ri F18 T, g18, k18, b18⟩⟩
  have E19 : FnE l.prog w K mg base "_law_great" ["_law_script"] 2 (spGr K) := ⟨⟨f19, _, ok_gr F19 E10 E18, g19, k19, b19⟩⟩
  have E20 : FnE l.prog w K mg base "_law_bounds_kept" ["_law_script", "_law_bad"] 8 (spBk K) := ⟨⟨f20, _, ok_bk F20 T (E10.mono (by decide)) (E18.mono (by decide)) (E19.mono (by decide)) E14 (E7.mono (by decide)), g20, k20, b20⟩⟩
  exact ok_law F21 T (PySem.W.mg_none_of X G z14) (E10.mono (by decide)) (E12.mono (by decide)) (E15.mono (by decide)) (E14.mono (by decide)) (E17.mono (by decide)) (E16.mono (by decide)) E20 (E7.mono (by decide))
theorem walk {l : PySem.W.OpenLaw} {q : Program} {loose : List Str} {XP : (Str → Option Value) → Heap → Prop} {YP : World → Heap → Prop} {d : DefRec} {K : Params → PySem.W.Frag} (hn : l.most = some 63) (hdf : d.params.defaults = [])
    (hY : ∀ (w : World) (h : Heap), YP w h → (K w.params).In h)
    (F : ∀ (w : World) (mg : Str → Option Value) (fa : Addr) (h : Heap), (K w.params).In h → h.Ns mainGlobals mg → mg d.name = some (.ref fa) →
      ∃ fd : FuncData, (∀ (s : Shared) (u : Value), BindsTo s fd ⟨[u], []⟩ [("_law_script", u)]) ∧ ∀ base : Heap, (K w.params).In base → base.Ns mainGlobals mg → FnOk l.prog w (K w.params) mg base CX0 9 fa fd ["_law_script"] (spLaw (K w.params))) :
    PySem.W.WalkO q loose XP YP l.row.toRowW d [] (fun f vs => PySem.call f vs) :=
  L2.walk_of (n := 63) (k := 9) (x := "_law_script") (CX := fun _ => CX0) (sp := fun w => spLaw (K w.params)) hn (by decide) hdf ⟨rfl, by decide, by decide⟩ hY F (fun _ _ a ns hl _ hS => ⟨a, ns, rfl, hS, hl, fun _ => rfl⟩) fun _ _ _ _ _ z => z
end My
set_option Elab.async false
open PySem PySem.W PyProof.Rows
def PySem.W.Fast.tw2352698766258141039 : Unit := ()
def PySem.W.Fast.tw10037575110381149382 : Unit := ()
def PySem.W.Fast.tw13307630618697466792 : Unit := ()
def PySem.W.Fast.tw9531777701884607545 : Unit := ()
def PySem.W.Fast.tw4551306104484263947 : Unit := ()
def PySem.W.Fast.tw9651053195171393819 : Unit := ()
def PySem.W.Fast.tw1482229230170712986 : Unit := ()
def PySem.W.Fast.tw15528543965797597486 : Unit := ()
def PySem.W.Fast.tw5823338315702067451 : Unit := ()
def PySem.W.Fast.tw14354067705643971787 : Unit := ()
def PySem.W.Fast.tw3902285174039807471 : Unit := ()
def PySem.W.Fast.tw16817993021521894453 : Unit := ()
def PySem.W.Fast.tw6560190589978462382 : Unit := ()
def PySem.W.Fast.tw15050796966413998631 : Unit := ()
def PySem.W.Fast.tw9198284647147949544 : Unit := ()
def PySem.W.Fast.tw2327248523880753144 : Unit := ()
def PySem.W.Fast.tw14681213083714839526 : Unit := ()
def PySem.W.Fast.tw3655951781909339891 : Unit := ()
def PySem.W.Fast.tw5257835644979039100 : Unit := ()
def PySem.W.Fast.tw6907074576824847898 : Unit := ()
def PySem.W.Fast.tw11053023544554660778 : Unit := ()
def PySem.W.Fast.tw4508854912107060371 : Unit := ()
def PySem.W.Fast.tw4974417760545860380 : Unit := ()
def PySem.W.Fast.tw14117191940818810115 : Unit := ()
def PySem.W.Fast.tw10938079551529432889 : Unit := ()
def PySem.W.Fast.tw4522291580391519208 : Unit := ()
def PySem.W.Fast.tw16845416664613094659 : Unit := ()
def PySem.W.Fast.tw2082747143194423177 : Unit := ()
def PySem.W.Fast.tw15013715456512776760 : Unit := ()
def PySem.W.Fast.tw9596788312917465051 : Unit := ()
def PySem.W.Fast.tw8508672394419815290 : Unit := ()
def PySem.W.Fast.tw14920910297520403757 : Unit := ()
def PySem.W.Fast.tw10495445049728677183 : Unit := ()
def PySem.W.Fast.tw2798007965554422674 : Unit := ()
def PySem.W.Fast.tw15969205853225998616 : Unit := ()
def PySem.W.Fast.tw227192621026857466 : Unit := ()
def PySem.W.Fast.tw18352091569208787651 : Unit := ()
def PySem.W.Fast.tw12131437784278796760 : Unit := ()
def PySem.W.Fast.tw17155823998338522971 : Unit := ()
def PySem.W.Fast.tw11120807009862988692 : Unit := ()
def PySem.W.Fast.tw5424088738094466720 : Unit := ()
def PySem.W.Fast.tw6014460095806721518 : Unit := ()
def PySem.W.Fast.tw16041608578648591005 : Unit := ()
def PySem.W.Fast.tw13160037548145242114 : Unit := ()
def PySem.W.Fast.tw10783669513739390112 : Unit := ()
def PySem.W.Fast.tw12499933994904152225 : Unit := ()
def PySem.W.Fast.tw11957537482256981742 : Unit := ()
def PySem.W.Fast.tw1644688660581627928 : Unit := ()
def PySem.W.Fast.tw18153794217085591291 : Unit := ()
def PySem.W.Fast.tw14106626769442924888 : Unit := ()
def PySem.W.Fast.tw9052665210341897778 : Unit := ()
def PySem.W.Fast.tw7429426250965209819 : Unit := ()
def PySem.W.Fast.tw11227781581699144300 : Unit := ()
def PySem.W.Fast.tw2028810765625178527 : Unit := ()
def PySem.W.Fast.tw5880220863080602055 : Unit := ()
def PySem.W.Fast.tw6270353307890967879 : Unit := ()
def PySem.W.Fast.tw15144440261685500074 : Unit := ()
def PySem.W.Fast.tw3543599033542572827 : Unit := ()
def PySem.W.Fast.tw17039902056876024923 : Unit := ()
def PySem.W.Fast.tw11681317301689244239 : Unit := ()
def PySem.W.Fast.tw3555845491489520809 : Unit := ()
def PySem.W.Fast.tw12863228666049624280 : Unit := ()
def PySem.W.Fast.tw3802336673839650291 : Unit := ()
def PySem.W.Fast.tw11037829154291802605 : Unit := ()
def PySem.W.Fast.tw5381841734866931203 : Unit := ()
def PySem.W.Fast.tw6878668081016269829 : Unit := ()
def PySem.W.Fast.tw5762297933487878669 : Unit := ()
def PySem.W.Fast.tw6400794918698301822 : Unit := ()
def PySem.W.Fast.tw10268639162534135579 : Unit := ()
def PySem.W.Fast.tw13299099189385694569 : Unit := ()
def PySem.W.Fast.tw12438050633901766782 : Unit := ()
def PySem.W.Fast.tw1535294413277044958 : Unit := ()
def PySem.W.Fast.tw3062968705955854813 : Unit := ()
def PySem.W.Fast.tw11726440942905108738 : Unit := ()
def PySem.W.Fast.tw2487027206130005737 : Unit := ()
def PySem.W.Fast.tw10348813524640983910 : Unit := ()
def PySem.W.Fast.tw1224775334656879729 : Unit := ()
def PySem.W.Fast.tw443710690107935760 : Unit := ()
def PySem.W.Fast.tw15353730817483473288 : Unit := ()
def PySem.W.Fast.tw6300042568597781724 : Unit := ()
def PySem.W.Fast.tw2505920255779414829 : Unit := ()
def PySem.W.Fast.tw10839571987489718361 : Unit := ()
def PySem.W.Fast.tw623598878750119222 : Unit := ()
def PySem.W.Fast.tw16196314285778353018 : Unit := ()
def PySem.W.Fast.tw11153198810705667685 : Unit := ()
def PySem.W.Fast.tw2255075677452291206 : Unit := ()
def PySem.W.Fast.tw4944940713263488308 : Unit := ()
def PySem.W.Fast.tw3460661538669475248 : Unit := ()
def PySem.W.Fast.tw13320653659979010886 : Unit := ()
def PySem.W.Fast.tw7295975273230380948 : Unit := ()
def PySem.W.Fast.tw3365174218077734313 : Unit := ()
def PySem.W.Fast.tw4409380559473434799 : Unit := ()
def PySem.W.Fast.tw1796406905378641411 : Unit := ()
def PySem.W.Fast.tw15919682692652949575 : Unit := ()
set_option maxRecDepth 100000 in
set_option maxHeartbeats 0 in
theorem PySem.Challenge.cw_tintties_k82_no_text_holds : PySem.Challenge.rw_tintties_k82_no_text.Holds := by
  w_on; o_law; k_head; (case hw => w_witness2)
  k_fill
  refine My.walk (l := PySem.Challenge.rw_tintties_k82_no_text) rfl rfl (fun w h Y => PySem.W.kIn_of Y) ?F
  case F =>
    intro w mg fa h KX G hmg
    refine' My.all_mk KX G hmg ?a1 ?l1 ?c1p ?k1 ?a2 ?l2 ?c2p ?k2 ?a3 ?l3 ?c3p ?k3 ?a4 ?l4 ?c4p ?k4 ?a5 ?l5 ?c5p ?k5 ?a6 ?l6 ?c6p ?k6 ?a7 ?l7 ?c7p ?k7 ?a8 ?l8 ?c8p ?k8 ?a9 ?l9 ?c9p ?k9 ?a10 ?l10 ?c10p ?k10 ?a11 ?l11 ?c11p ?k11 ?a12 ?l12 ?c12p ?k12 ?a13 ?l13 ?c13p ?k13 ?a14 ?l14 ?c14p ?k14 ?a15 ?l15 ?c15p ?k15 ?a16 ?l16 ?c16p ?k16 ?a17 ?l17 ?c17p ?k17 ?a18 ?l18 ?c18p ?k18 ?a19 ?l19 ?c19p ?k19 ?a20 ?l20 ?c20p ?k20 ?a21 ?l21 ?c21p ?k21 ?aW ?pgW ?hdW ?poW ?saW ?mkW ?inW ?kcW ?hdl9 ?zP ?zT ?zL ?zF ?zM ?zN ?aT1 ?aT2 ?aTE ?aN1 ?aN2 ?aN3 ?aN4 ?aN5 ?aN6 ?aN7 ?aM1 ?aM2 ?hCxcT1 ?kpT1 ?xg1T1 ?xg2T1 ?xg3T1 ?hCx4T1 ?hCx5T1 ?xg6T1 ?hCkvT1 ?hCkmT1 ?hCkN1T1 ?hCkN2T1 ?hCkN3T1 ?hCkN4T1 ?hCkN5T1 ?hCkN6T1 ?hCkN7T1 ?hCktT1 ?hCkgT1 ?hCxcT2 ?kpT2 ?xg1T2 ?xg2T2 ?xg3T2 ?hCx4T2 ?hCx5T2 ?xg6T2 ?hCkvT2 ?hCkmT2 ?hCkN1T2 ?hCkN2T2 ?hCkN3T2 ?hCkN4T2 ?hCkN5T2 ?hCkN6T2 ?hCkN7T2 ?hCktT2 ?hCkgT2 ?xg7 ?xg8 ?hCxn ?saT2 ?inT2 ?ifT2 ?lI ?cIp ?kI ?neT2 ?hCq1 ?hCq2 ?hCq3 ?hCq4 ?zV ?z1 ?z2 ?z3 ?z4 ?z5 ?z6 ?z7 ?z8 ?z9 ?z10 ?z11 ?z12 ?z13 ?z14
    (case a1 => k_is); (case l1 => k_is); (case c1p => k_is); (case k1 => k_is)
    (case a2 => k_is); (case l2 => k_is); (case c2p => k_is); (case k2 => k_is)
    (case a3 => k_is); (case l3 => k_is); (case c3p => k_is); (case k3 => k_is)
    (case a4 => k_is); (case l4 => k_is); (case c4p => k_is); (case k4 => k_is)
    (case a5 => k_is); (case l5 => k_is); (case c5p => k_is); (case k5 => k_is)
    (case a6 => k_is); (case l6 => k_is); (case c6p => k_is); (case k6 => k_is)
    (case a7 => k_is); (case l7 => k_is); (case c7p => k_is); (case k7 => k_is)
    (case a8 => k_is); (case l8 => k_is); (case c8p => k_is); (case k8 => k_is)
    (case a9 => k_is); (case l9 => k_is); (case c9p => k_is); (case k9 => k_is)
    (case a10 => k_is); (case l10 => k_is); (case c10p => k_is); (case k10 => k_is)
    (case a11 => k_is); (case l11 => k_is); (case c11p => k_is); (case k11 => k_is)
    (case a12 => k_is); (case l12 => k_is); (case c12p => k_is); (case k12 => k_is)
    (case a13 => k_is); (case l13 => k_is); (case c13p => k_is); (case k13 => k_is)
    (case a14 => k_is); (case l14 => k_is); (case c14p => k_is); (case k14 => k_is)
    (case a15 => k_is); (case l15 => k_is); (case c15p => k_is); (case k15 => k_is)
    (case a16 => k_is); (case l16 => k_is); (case c16p => k_is); (case k16 => k_is)
    (case a17 => k_is); (case l17 => k_is); (case c17p => k_is); (case k17 => k_is)
    (case a18 => k_is); (case l18 => k_is); (case c18p => k_is); (case k18 => k_is)
    (case a19 => k_is); (case l19 => k_is); (case c19p => k_is); (case k19 => k_is)
    (case a20 => k_is); (case l20 => k_is); (case c20p => k_is); (case k20 => k_is)
    (case a21 => k_is); (case l21 => k_is); (case c21p => k_is); (case k21 => k_is)
    (case aW => k_is); (case pgW => k_is); (case hdW => k_is); (case poW => k_is)
    (case saW => k_is); (case mkW => k_is); (case inW => k_is); (case kcW => k_is)
    (case hdl9 => k_is); (case zP => k_is); (case zT => k_is); (case zL => k_is)
    (case zF => k_is); (case zM => k_is); (case zN => k_is); (case aT1 => k_is)
    (case aT2 => k_is); (case aTE => k_is); (case aN1 => k_is); (case aN2 => k_is)
    (case aN3 => k_is); (case aN4 => k_is); (case aN5 => k_is); (case aN6 => k_is)
    (case aN7 => k_is); (case aM1 => k_is); (case aM2 => k_is); (case hCxcT1 => kernel_rfl)
    (case kpT1 => k_is); (case xg1T1 => k_is); (case xg2T1 => k_is); (case xg3T1 => k_is)
    (case hCx4T1 => kernel_rfl); (case hCx5T1 => kernel_rfl); (case xg6T1 => k_is); (case hCkvT1 => kernel_rfl)
    (case hCkmT1 => kernel_rfl); (case hCkN1T1 => kernel_rfl); (case hCkN2T1 => kernel_rfl); (case hCkN3T1 => kernel_rfl)
    (case hCkN4T1 => kernel_rfl); (case hCkN5T1 => kernel_rfl); (case hCkN6T1 => kernel_rfl); (case hCkN7T1 => kernel_rfl)
    (case hCktT1 => kernel_rfl); (case hCkgT1 => kernel_rfl); (case hCxcT2 => kernel_rfl); (case kpT2 => k_is)
    (case xg1T2 => k_is); (case xg2T2 => k_is); (case xg3T2 => k_is); (case hCx4T2 => kernel_rfl)
    (case hCx5T2 => kernel_rfl); (case xg6T2 => k_is); (case hCkvT2 => kernel_rfl); (case hCkmT2 => kernel_rfl)
    (case hCkN1T2 => kernel_rfl); (case hCkN2T2 => kernel_rfl); (case hCkN3T2 => kernel_rfl); (case hCkN4T2 => kernel_rfl)
    (case hCkN5T2 => kernel_rfl); (case hCkN6T2 => kernel_rfl); (case hCkN7T2 => kernel_rfl); (case hCktT2 => kernel_rfl)
    (case hCkgT2 => kernel_rfl); (case xg7 => k_is); (case xg8 => k_is); (case hCxn => kernel_rfl)
    (case saT2 => k_is); (case inT2 => k_is); (case ifT2 => k_is); (case lI => k_is)
    (case cIp => k_is); (case kI => k_is); (case neT2 => k_is); (case hCq1 => kernel_rfl)
    (case hCq2 => kernel_rfl); (case hCq3 => kernel_rfl); (case hCq4 => kernel_rfl); (case zV => k_is)
    (case z1 => k_is); (case z2 => k_is); (case z3 => k_is); (case z4 => k_is)
    (case z5 => k_is); (case z6 => k_is); (case z7 => k_is); (case z8 => k_is)
    (case z9 => k_is); (case z10 => k_is); (case z11 => k_is); (case z12 => k_is)
    (case z13 => k_is); (case z14 => k_is)
#print axioms PySem.Challenge.cw_tintties_k82_no_text_holds
