import PyProof.Rows.All
import Wide.All
import OpenK.AllK
import Wide.FinOn
import Lean
import PyProof.EqAt
import PyProof.EqKinds
import PyProof.TupleCall
import PySem.SetTable
import PySem.SetOps
import PyProof.Rows.SetFrom
import PyProof.NeKinds
import PyProof.Rows.StrInSeq3
import PyProof.AttrMissHeap
import PyProof.Rows.SeqMore2
import PySem.Challenge.RW_tintties_k42_whole_tinted
set_option Elab.async false
set_option linter.all false
set_option maxRecDepth 100000
set_option maxHeartbeats 4000000
inductive E3{A B C}(p:A->B->C->Prop):Prop|mk (a:A)(b:B)(c:C)(h:p a b c):E3 p
inductive E4{A B C D}(p:A->B->C->D->Prop):Prop|mk (a:A)(b:B)(c:C)(d:D)(h:p a b c d):E4 p
inductive E5{A B C D E}(p:A->B->C->D->E->Prop):Prop|mk (a:A)(b:B)(c:C)(d:D)(e:E)(h:p a b c d e):E5 p
inductive E6{A B C D E F}(p:A->B->C->D->E->F->Prop):Prop|mk (a:A)(b:B)(c:C)(d:D)(e:E)(f:F)(h:p a b c d e f):E6 p
inductive E7{A B C D E F G}(p:A->B->C->D->E->F->G->Prop):Prop|mk (a:A)(b:B)(c:C)(d:D)(e:E)(f:F)(g:G)(h:p a b c d e f g):E7 p
inductive E8{A B C D E F G H}(p:A->B->C->D->E->F->G->H->Prop):Prop|mk (a:A)(b:B)(c:C)(d:D)(e:E)(f:F)(g:G)(h:H)(h:p a b c d e f g h):E8 p
inductive E10{A B C D E F G H I J}(p:A->B->C->D->E->F->G->H->I->J->Prop):Prop|mk (a:A)(b:B)(c:C)(d:D)(e:E)(f:F)(g:G)(h:H)(i:I)(j:J)(h:p a b c d e f g h i j):E10 p
theorem Qa:type_of% @PySem.wpAny_bind:=@PySem.wpAny_bind
theorem Qb:type_of% @List.getElem?_eq_getElem:=@List.getElem?_eq_getElem
theorem Qc:type_of% @PySem.Heap.get?_push_of_some:=@PySem.Heap.get?_push_of_some
theorem Qd:type_of% @List.getElem?_eq_some_iff:=@List.getElem?_eq_some_iff
theorem Qe:type_of% @Nat.le_refl:=@Nat.le_refl
theorem Qf:type_of% @List.mem_singleton:=@List.mem_singleton
theorem Qg:type_of% @PySem.wpAny_pure:=@PySem.wpAny_pure
theorem Qh:type_of% @PySem.Heap.lt_size:=@PySem.Heap.lt_size
theorem Qi:type_of% @List.getD_eq_getElem?_getD:=@List.getD_eq_getElem?_getD
theorem Qj:type_of% @List.mem_of_getElem?:=@List.mem_of_getElem?
theorem Qk:type_of% @List.length_append:=@List.length_append
theorem Ql:type_of% @PySem.Heap.get?_push_size:=@PySem.Heap.get?_push_size
theorem Qm:type_of% @List.mem_append_right:=@List.mem_append_right
theorem Qn:type_of% @List.mem_cons:=@List.mem_cons
theorem Qo:type_of% @Nat.ne_of_lt:=@Nat.ne_of_lt
theorem Qq:type_of% @List.length_map:=@List.length_map
theorem Qr:type_of% @of_decide_eq_true:=@of_decide_eq_true
theorem Qs:type_of% @Nat.lt_of_lt_of_le:=@Nat.lt_of_lt_of_le
theorem Qt:type_of% @List.not_mem_nil:=@List.not_mem_nil
theorem Qu:type_of% @decide_eq_true:=@decide_eq_true
theorem Qv:type_of% @Classical.byContradiction:=@Classical.byContradiction
theorem Qw:type_of% @List.mem_append:=@List.mem_append
theorem Qx:type_of% @List.getElem?_map:=@List.getElem?_map
theorem Qy:type_of% @List.getElem?_set:=@List.getElem?_set
theorem Qz:type_of% @List.mem_append_left:=@List.mem_append_left
theorem QA:type_of% @List.size_toArray:=@List.size_toArray
theorem QB:type_of% @PySem.F.plainAttrs_list:=@PySem.F.plainAttrs_list
theorem QC:type_of% @List.mem_range:=@List.mem_range
theorem QD:type_of% @PySem.PassesOwn.never:=@PySem.PassesOwn.never
theorem QE:type_of% @Nat.zero_le:=@Nat.zero_le
theorem QF:type_of% @List.length_singleton:=@List.length_singleton
theorem QG:type_of% @PySem.F.slot_list_append:=@PySem.F.slot_list_append
theorem QH:type_of% @PySem.F.type_list_append:=@PySem.F.type_list_append
theorem QI:type_of% @Bool.false_ne_true:=@Bool.false_ne_true
theorem QJ:type_of% @List.getElem?_append_left:=@List.getElem?_append_left
theorem QK:type_of% @Nat.not_lt_zero:=@Nat.not_lt_zero
theorem QL:type_of% @List.length_cons:=@List.length_cons
theorem QM:type_of% @Nat.le_trans:=@Nat.le_trans
theorem QN:type_of% @List.nodup_cons:=@List.nodup_cons
theorem QO:type_of% @List.map_append:=@List.map_append
theorem QP:type_of% @PySem.sizeLine_eq:=@PySem.sizeLine_eq
theorem QQ:type_of% @List.mem_map:=@List.mem_map
theorem QR:type_of% @PySem.Heap.size_push:=@PySem.Heap.size_push
theorem QS:type_of% @PySem.mem_of_lookup:=@PySem.mem_of_lookup
theorem QT:type_of% @List.length_set:=@List.length_set
theorem QU:type_of% @Nat.lt_irrefl:=@Nat.lt_irrefl
theorem QV:type_of% @PySem.Heap.get?_update_other:=@PySem.Heap.get?_update_other
theorem QW:type_of% @List.getElem_of_mem:=@List.getElem_of_mem
theorem QX:type_of% @decide_eq_false:=@decide_eq_false
theorem QY:type_of% @Array.getD_eq_getD_getElem?:=@Array.getD_eq_getD_getElem?
theorem QZ:type_of% @List.length_pos_of_mem:=@List.length_pos_of_mem
theorem Q0:type_of% @List.getElem?_append_right:=@List.getElem?_append_right
theorem Q1:type_of% @Int.toNat_natCast:=@Int.toNat_natCast
theorem Q2:type_of% @PySem.wpAny_mono:=@PySem.wpAny_mono
theorem Q3:type_of% @or_false:=@or_false
theorem Q4:type_of% @List.nodup_nil:=@List.nodup_nil
theorem Q5:type_of% @PySem.wpAny_holding:=@PySem.wpAny_holding
theorem Q6:type_of% @Option.isSome_iff_exists:=@Option.isSome_iff_exists
theorem Q7:type_of% @Nat.lt_succ_self:=@Nat.lt_succ_self
theorem Q8:type_of% @List.mem_filter:=@List.mem_filter
theorem Q9:type_of% @PySem.wpAny_seqItems:=@PySem.wpAny_seqItems
theorem Ua:type_of% @PySem.codeAny_builtin:=@PySem.codeAny_builtin
theorem Ub:type_of% @List.filter_cons:=@List.filter_cons
theorem Uc:type_of% @List.mem_cons_of_mem:=@List.mem_cons_of_mem
theorem Ud:type_of% @List.nodup_append:=@List.nodup_append
theorem Ue:type_of% @List.take_add_one:=@List.take_add_one
theorem Ug:type_of% @Nat.lt_succ_iff_lt_or_eq:=@Nat.lt_succ_iff_lt_or_eq
theorem Uh:type_of% @PySem.Heap.get?_update_self:=@PySem.Heap.get?_update_self
theorem Ui:type_of% @PySem.wpAny_loadPart':=@PySem.wpAny_loadPart'
theorem Uj:type_of% @Array.getElem?_eq_some_iff:=@Array.getElem?_eq_some_iff
theorem Uk:type_of% @Nat.lt_succ_of_lt:=@Nat.lt_succ_of_lt
theorem Ul:type_of% @List.pairwise_map:=@List.pairwise_map
theorem Um:type_of% @List.drop_eq_getElem_cons:=@List.drop_eq_getElem_cons
theorem Uo:type_of% @Nat.ne_of_gt:=@Nat.ne_of_gt
theorem Up:type_of% @PySem.wpAny_Call_Name_kw:=@PySem.wpAny_Call_Name_kw
theorem Uq:type_of% @List.mem_cons_self:=@List.mem_cons_self
theorem Ur:type_of% @List.length_nil:=@List.length_nil
theorem Us:type_of% @PySem.wpAny_field:=@PySem.wpAny_field
theorem Ut:type_of% @List.getElem?_eq_none:=@List.getElem?_eq_none
theorem Uu:type_of% @PySem.wpAny_truthy_bool:=@PySem.wpAny_truthy_bool
theorem Uv:type_of% @List.filter_append:=@List.filter_append
theorem Uw:type_of% @PySem.W.kia_one:=@PySem.W.kia_one
theorem Ux:type_of% @Bool.and_eq_true:=@Bool.and_eq_true
theorem Uy:type_of% @List.length_filter_le:=@List.length_filter_le
theorem Uz:type_of% @List.Pairwise.imp_of_mem:=@List.Pairwise.imp_of_mem
theorem UA:type_of% @List.range_succ:=@List.range_succ
theorem UB:type_of% @PySem.wpAny_pyIter_tuple:=@PySem.wpAny_pyIter_tuple
theorem UC:type_of% @List.length_take:=@List.length_take
theorem UD:type_of% @PySem.plainId_quiet:=@PySem.plainId_quiet
theorem UE:type_of% @PySem.codeAny_mono:=@PySem.codeAny_mono
theorem UF:type_of% @PySem.wpAny_newObj_type:=@PySem.wpAny_newObj_type
theorem UG:type_of% @Nat.lt_trichotomy:=@Nat.lt_trichotomy
theorem UH:type_of% @List.filterMap_cons:=@List.filterMap_cons
theorem UI:type_of% @Array.getElem?_toList:=@Array.getElem?_toList
theorem UJ:type_of% @PySem.wpAny_call_entry:=@PySem.wpAny_call_entry
theorem UK:type_of% @List.any_eq_true:=@List.any_eq_true
theorem UL:type_of% @List.take_length:=@List.take_length
theorem UM:type_of% @List.getElem?_of_mem:=@List.getElem?_of_mem
theorem UN:type_of% @PySem.wpAny_pyIter_list:=@PySem.wpAny_pyIter_list
theorem UO:type_of% @PySem.wpAny_callSpecial?_slot:=@PySem.wpAny_callSpecial?_slot
theorem UP:type_of% @PySem.call_meets:=@PySem.call_meets
theorem UQ:type_of% @PySem.F.slot_int_rmul:=@PySem.F.slot_int_rmul
theorem UR:type_of% @Array.length_toList:=@Array.length_toList
theorem US:type_of% @Int.toNat_of_nonneg:=@Int.toNat_of_nonneg
theorem UT:type_of% @PyProof.Rows.callWith_type1:=@PyProof.Rows.callWith_type1
theorem UU:type_of% @PySem.Calls.spliced_cons:=@PySem.Calls.spliced_cons
theorem UV:type_of% @Bool.false_eq_true:=@Bool.false_eq_true
theorem UW:type_of% @PySem.wpAny_setField_rec:=@PySem.wpAny_setField_rec
theorem UX:type_of% @PySem.wpAny_passesOwn:=@PySem.wpAny_passesOwn
theorem UY:type_of% @List.append_nil:=@List.append_nil
theorem UZ:type_of% @congrArg:=@congrArg
theorem U0:type_of% @Array.mem_toList_iff:=@Array.mem_toList_iff
theorem U1:type_of% @List.length_range:=@List.length_range
theorem U2:type_of% @List.getElem_toArray:=@List.getElem_toArray
theorem U3:type_of% @Bool.eq_false_iff:=@Bool.eq_false_iff
theorem U4:type_of% @List.map_map:=@List.map_map
theorem U5:type_of% @Int.zero_add:=@Int.zero_add
theorem U6:type_of% @beq_eq_false_iff_ne:=@beq_eq_false_iff_ne
theorem U7:type_of% @List.map_congr_left:=@List.map_congr_left
theorem U8:type_of% @List.nodup_range:=@List.nodup_range
theorem U9:type_of% @List.mem_filterMap:=@List.mem_filterMap
theorem Va:type_of% @PySem.wpAny_call:=@PySem.wpAny_call
theorem Vb:type_of% @List.pairwise_cons:=@List.pairwise_cons
theorem Vc:type_of% @List.find?_cons:=@List.find?_cons
theorem Vd:type_of% @List.map_cons:=@List.map_cons
theorem Ve:type_of% @beq_iff_eq:=@beq_iff_eq
theorem Vf:type_of% @Nat.le_of_lt:=@Nat.le_of_lt
theorem Vg:type_of% @Nat.succ_pos:=@Nat.succ_pos
theorem Vh:type_of% @Nat.sub_self:=@Nat.sub_self
namespace L2
open PySem PySem.Spec PyProof.Rows
abbrev Key:=Sum Int Str
def Zc0:Key->Value->Bool
 | .inl k,v=>Value.isInt k v
 | .inr x,v=>Value.isStrOf x v
def ZnZ(w:World):Key->Int
 | .inl k=>hashInt k
 | .inr x=>hashStr w x
theorem ZR:∀{k}{v},Zc0 k v=true->(∃i t,k=Sum.inl i/\v=Value.int i t)\/(∃x t,k=Sum.inr x/\v=Value.str x t)
 | .inl i,v,h=>by
  obtain⟨t,e⟩:=Value.isInt_shape h
  simp_all
 | .inr x,v,h=>by
  obtain⟨t,e⟩:=Value.isStrOf_shape h
  simp_all
theorem Zgd(i)(t):Zc0 (.inl i) (.int i t)=true:=by simp[Zc0,Value.isInt]
theorem Zgc(x)(t):Zc0 (.inr x) (.str x t)=true:=by simp[Zc0,Value.isStrOf]
theorem ZkL(a b):decide ((Sum.inl a:Key)=Sum.inl b)=(a==b):=by
 grind
theorem ZkI(a b):decide ((Sum.inr a:Key)=Sum.inr b)=decide (a=b):=by
 simp_all
theorem ZkK(a)(b):decide ((Sum.inl a:Key)=Sum.inr b)=false:=QX (fun q=>nomatch q)
theorem ZkJ(a)(b):decide ((Sum.inr a:Key)=Sum.inl b)=false:=QX (fun q=>nomatch q)
def ZQ(prog)(w):PySem.KeyKind prog w Key where
 is:=Zc0
 hash:=ZnZ w
 inj:=fun v a b ha hb=>by
  rcases ZR ha with⟨i,t,rfl,rfl⟩|⟨x,t,rfl,rfl⟩
  ·rcases ZR hb with⟨j,u,rfl,e⟩|⟨y,u,rfl,e⟩
   ·injection e with e1 _;rw[e1]
   ·exact nomatch e
  ·rcases ZR hb with⟨j,u,rfl,e⟩|⟨y,u,rfl,e⟩
   ·exact nomatch e
   ·injection e with e1 _;rw[e1]
 byValue:=fun k v h=>by
  rcases ZR h with⟨i,t,rfl,rfl⟩|⟨x,t,rfl,rfl⟩<;>rfl
 pyHash:=fun hv h=>by
  rcases ZR hv with⟨i,t,rfl,rfl⟩|⟨x,t,rfl,rfl⟩
  ·exact wpAny_pyHash_int h
  ·exact wpAny_pyHash_str h
 eqBool:=fun hu hv h=>by
  rcases ZR hu with⟨i,t,rfl,rfl⟩|⟨x,t,rfl,rfl⟩
  ·rcases ZR hv with⟨j,u,rfl,rfl⟩|⟨y,u,rfl,rfl⟩
   ·rw[ZkL]at h;exact wpAny_eqBool_int h
   ·rw[ZkK]at h;exact SeqAt.EqAt.int_str i t y u _ _ _ _ h
  ·rcases ZR hv with⟨j,u,rfl,rfl⟩|⟨y,u,rfl,rfl⟩
   ·rw[ZkJ]at h;exact SeqAt.EqAt.str_int x t j u _ _ _ _ h
   ·rw[ZkI]at h;exact wpAny_eqBool_str h
 «strs»:=fun k x t v h=>by
  rcases ZR h with⟨i,u,rfl,e⟩|⟨y,u,rfl,e⟩
  ·exact nomatch e
  ·injection e with e1 _
   subst e1;cases v<;>rfl
theorem ZdD(prog)(w)(i)(t):(ZQ prog w).is (.inl i) (.int i t)=true:=Zgd i t
theorem ZdC(prog)(w)(x)(t):(ZQ prog w).is (.inr x) (.str x t)=true:=Zgc x t
inductive V where
 |non|bl (b:Bool)|int (i:Int)|str (x:Str)|byt (b:Array UInt8)|flt (b:UInt64)|ref (a:Addr)|ty (n:String)
 deriving DecidableEq
def RelV:V->Value->Prop
 | .non,u=>u=Value.none
 | .bl b,u=>u=Value.bool b
 | .int i,u=>∃t,u=Value.int i t
 | .str x,u=>∃t,u=Value.str x t
 | .byt b,u=>∃t,u=Value.bytes b t
 | .flt b,u=>∃t,u=Value.float b t
 | .ref a,u=>u=Value.ref a
 | .ty n,u=>u=Value.type n
abbrev Vals:List V->List Value->Prop:=Paired RelV
theorem Vals.length{xs}{us}(r:Vals xs us):xs.length=us.length:=Paired.length r
theorem Vals.get:∀{xs}{us}{i:Nat}{x},Vals xs us->xs[i]?=some x->∃u,us[i]?=some u/\RelV x u
 |_,_,_,_,.nil,e=>by simp at e
 |_,_,0,_,.cons r _,e=>by simp_all
 |_,_,i+1,x,.cons _ t,e=>by
  obtain⟨u,_,_⟩:=Vals.get t (by simpa using e)
  simp_all
theorem Vals.set{x}{u}(r:RelV x u):∀{xs}{us}(i),Vals xs us->Vals (xs.set i x) (us.set i u)
 |_,_,_,.nil=> .nil
 |_,_,0,.cons _ t=> .cons r t
 |_,_,i+1,.cons q t=> .cons q (Vals.set r i t)
theorem Vals.append:∀{xs ys}{us ws},Vals xs us->Vals ys ws->Vals (xs++ys) (us++ws)
 |_,_,_,_,.nil,s=>s
 |_,_,_,_,.cons r t,s=> .cons r (Vals.append t s)
theorem Vals.take:∀{xs}{us}(n),Vals xs us->Vals (xs.take n) (us.take n)
 |_,_,0,_=> .nil
 |_,_,_+1,.nil=> .nil
 |_,_,n+1,.cons r t=> .cons r (Vals.take n t)
theorem Vals.drop:∀{xs}{us}(n),Vals xs us->Vals (xs.drop n) (us.drop n)
 |_,_,0,r=>r
 |_,_,_+1,.nil=> .nil
 |_,_,n+1,.cons _ t=>Vals.drop n t
def RelO:Option V->Option Value->Prop
 |some v,some u=>RelV v u
 |none,none=>True
 |_,_=>False
def KV{κ}:List (κ×V)->List (κ×Value)->Prop:=Paired fun p q=>p.1=q.1/\RelV p.2 q.2
def kV:Key->V
 | .inl i=> .int i
 | .inr x=> .str x
inductive HO where
 |lst (xs:List V)
 |tup (xs:List V)
 |dK (kvs:List (Key×V))|dT (kvs:List (List Key×V))
 |set (S:Int->Bool) (n:Nat)
 |ins (C dx:Addr) (fs:List (Str×V))
 |own (x:Addr)
 |xd (fs:List (Str×V))
 |met (f x:Addr)
 |rng (lo hi:Int)
 |frz (o:Obj) (u:HO)
 |tbl (ps:Array Value)
 |ext (φ:Heap->Prop)
abbrev Hp:=Addr->Option HO
def upd(H:Hp)(a:Addr)(o:HO):Hp:=fun b=>if b=a then some o else H b
theorem Zd{H}{a}{o}:upd H a o a=some o:=by unfold upd;rw[if_pos rfl]
theorem Zi{H}{a b}{o}(h:b≠a):upd H a o b=H b:=by unfold upd;rw[if_neg h]
theorem ZdB{H:Hp}{a b}{o u}(h:H a=some o)(h':H b=some u)(d:o≠u):a≠b:=by
 grind
theorem Zq{H:Hp}{a b}{o}(h:H a=some o)(h':H b=none):a≠b:=by
 grind
section
variable(P:Program)(w:World)
def ObjOk(H:Hp)(h:Heap)(a:Addr):HO->Prop
 | .lst xs=>xs.length<=sizeLine/\∃(its:List Value)(n:Nat),Vals xs its/\h.get? a=some {cls:= .type "list",data:= .seq its.toArray n}
 | .tup xs=>xs.length<=sizeLine/\∃its:List Value,Vals xs its/\IsTup h a its.toArray
 | .dK kvs=>kvs.length<=sizeLine/\(a==sysModules)=false/\∃vs,KV kvs vs/\h.DictOf (ZQ P w) a vs
 | .dT kvs=>kvs.length<=sizeLine/\(a==sysModules)=false/\∃xs:List (List Key×Addr×Value),
   Paired (fun(p:List Key×V)(q:List Key×Addr×Value)=>p.1=q.1/\H q.2.1=some (.tup (p.1.map kV))/\RelV p.2 q.2.2) kvs xs/\
   ∃o es ep,h.get? a=some o/\o.ExactDict/\o.data= .dict es ep/\es.toList=xs.map (entryOfKey (tupleKind (ZQ P w)))/\(xs.map (·.1)).Nodup
 | .set S n=>h.SetOf (intKind P w) a S n
 | .ins C dx fs=>H dx=some (.own a)/\fs.length<=1000/\dx≠a/\h.get? a=some (PySem.W.instObj C dx)/\
   ∃mA,h.Ns1 dx mA/\(∀f,RelO (fs.lookup f) (mA f))/\PySem.Within mA (fs.map (·.1))
 | .own _=>∃o,h.get? a=some o
 | .xd fs=>∃mA,h.Ns1 a mA/\∀f,RelO (fs.lookup f) (mA f)
 | .rng lo hi=>∃t u v,h.get? a=some {cls:= .type "range",data:= .fields #[.int lo t,.int hi u,.int 1 v]}
 | .frz o u=>h.get? a=some o/\ObjOk H h a u
 | .tbl ps=>h.get? a=some {cls:= .none,data:= .fields ps}
 | .met f x=>h.get? a=some (PySem.W.methodObj (.ref f) (.ref x))
 | .ext φ=>φ h/\(∃o,h.get? a=some o)/\∀h1 h2:Heap,φ h1->(∀o,h1.get? a=some o->h2.get? a=some o)->φ h2
def HOk(H:Hp)(h:Heap):Prop:=∀a o,H a=some o->ObjOk P w H h a o
end
section
variable{P:Program}{w:World}{H H':Hp}{h h':Heap}{a:Addr}{o:HO}
theorem ObjOk.lt(x:ObjOk P w H h a o):a<h.objs.size:=by
 cases o with
 |lst d=>obtain⟨_,_,_,_,e⟩:=x;exact Qh e
 |tup d=>obtain⟨_,_,_,p⟩:=x;exact p.lt
 |dK b=>obtain⟨_,_,_,_,o,_,_,e,_⟩:=x;exact Qh e
 |dT b=>obtain⟨_,_,_,_,o,_,_,e,_⟩:=x;exact Qh e
 |set S n=>obtain⟨o,_,_,_,e,_⟩:=x;exact Qh e
 |ins C _ c=>obtain⟨_,_,_,e,_⟩:=x;exact Qh e
 |own y=>obtain⟨_,e⟩:=x;exact Qh e
 |xd c=>obtain⟨_,⟨_,_,_,e,_⟩,_⟩:=x;exact Qh e
 |rng lo _=>obtain⟨_,_,_,e⟩:=x;exact Qh e
 |frz _ u=>obtain⟨e,_⟩:=x;exact Qh e
 |tbl _=>exact Qh x
 |met f y=>exact Qh x
 |_ φ=>obtain⟨_,⟨_,e⟩,_⟩:=x;exact Qh e
theorem Paired.mapP{α β}{F G}:∀{l₁:List α}{l₂:List β},Paired F l₁ l₂->(∀a b,F a b->G a b)->Paired G l₁ l₂
 |_,_,.nil,_=> .nil
 |_,_,.cons r t,f=> .cons (f _ _ r) (Paired.mapP t f)
theorem ObjOk.stay(x:ObjOk P w H h a o)(k:∀b u,(b=a\/H b=some (.own a))->h.get? b=some u->h'.get? b=some u)
  (ho:∀b,H b=some (.own a)->H' b=some (.own a)) (ht:∀b xs,H b=some (.tup xs)->H' b=some (.tup xs)):ObjOk P w H' h' a o:=by
 induction o with
 |lst xs=>obtain⟨z,m,n,r,e⟩:=x;exact⟨z,_,n,r,k _ _ (.inl rfl) e⟩
 |tup xs=>obtain⟨z,m,r,i,e,c⟩:=x;exact⟨z,_,r,i,k _ _ (.inl rfl) e,c⟩
 |dK A=>obtain⟨z,y,F,r,i,j,l,e,c⟩:=x;exact⟨z,y,F,r,i,j,l,k _ _ (.inl rfl) e,c⟩
 |dT A=>
  obtain⟨z,y,xs,r,i,j,l,e,c⟩:=x;exact⟨z,y,xs,Paired.mapP r fun p q z=>⟨z.1,ht _ _ z.2.1,z.2.2⟩,i,j,l,k _ _ (.inl rfl) e,c⟩
 |set S n=>obtain⟨i,j,l,t,e,c⟩:=x;exact⟨i,j,l,t,k _ _ (.inl rfl) e,c⟩
 |ins C _ I=>
  obtain⟨d,z,E,e,s,⟨B,j,l,G,c⟩,r⟩:=x;exact⟨ho _ d,z,E,k _ _ (.inl rfl) e,s,⟨B,j,l,k _ _ (.inr d) G,c⟩,r⟩
 |own y=>obtain⟨i,e⟩:=x;exact⟨i,k _ _ (.inl rfl) e⟩
 |xd I=>obtain⟨s,⟨B,j,l,e,c⟩,r⟩:=x;exact⟨s,⟨B,j,l,k _ _ (.inl rfl) e,c⟩,r⟩
 |rng lo _=>obtain⟨t,u,v,e⟩:=x;exact⟨t,u,v,k _ _ (.inl rfl) e⟩
 |frz i u D=>obtain⟨e,q⟩:=x;exact⟨k _ _ (.inl rfl) e,D q⟩
 |tbl _=>
  have e:=x;exact k a _ (.inl rfl) e
 |met f y=>
  have e:=x;exact k a _ (.inl rfl) e
 |_ φ=>obtain⟨p,⟨o,e⟩,st⟩:=x;exact⟨st _ _ p fun o q=>k _ _ (.inl rfl) q,⟨o,k _ _ (.inl rfl) e⟩,st⟩
theorem HOk.lt(x:HOk P w H h)(e:H a=some o):a<h.objs.size:=(x a o e).lt
theorem HOk.fresh(x:HOk P w H h)(e:h.objs.size<=a):H a=none:=by
 cases q:H a with
 |none=>rfl
 |_ u=>exact absurd (Qs (x.lt q) e) (QU _)
theorem HOk.kept(x:HOk P w H h)(k:∀b u,h.get? b=some u->h'.get? b=some u):HOk P w H h':=fun a o e=>
 (x a o e).stay (fun b u _ q=>k b u q) (fun _ q=>q) fun _ _ q=>q
theorem HOk.laid(x:HOk P w H h)(k:∀b u,h.get? b=some u->h'.get? b=some u) (hp:h.objs.size<=a) (new:ObjOk P w (upd H a o) h' a o):HOk P w (upd H a o) h':=fun b u e=>by
 have f:=x.fresh hp;by_cases d:b=a
 ·subst d;rw[Zd]at e;cases e;exact new
 ·rw[Zi d]at e
  exact(x b u e).stay (fun c v _ q=>k c v q) (fun c q=>by rw[Zi (Zq q f)];exact q) fun c _ q=>by rw[Zi (Zq q f)];exact q
end
def Rd(H:Hp)(a:Addr)(u:HO):Prop:=H a=some u\/∃o,H a=some (.frz o u)
theorem Rd.of{H}{a}{u}(h:H a=some u):Rd H a u:= .inl h
theorem Rd.ok{P}{w}{H}{h}{a}{u}(r:Rd H a u)(x:HOk P w H h):ObjOk P w H h a u:=by
 rcases r with r|⟨o,r⟩
 ·exact x a u r
 ·obtain⟨_,q⟩:=x a _ r
  exact q
def Mut:Option HO->Prop
 |some (.lst _)=>True
 |some (.dK _)=>True
 |some (.dT _)=>True
 |some (.set _ _)=>True
 |some (.ins _ _ _)=>True
 |some (.ext _)=>True
 |_=>False
section
variable{P:Program}{w:World}{H:Hp}{h h':Heap}{x e:Addr}{o':HO}
theorem HOk.write(ok:HOk P w H h)(mu:Mut (H x))(he:e=x\/H e=some (.own x))(k:∀b u,b≠e->h.get? b=some u->h'.get? b=some u) (heo:∃u,h'.get? e=some u)
  (new:ObjOk P w (upd H x o') h' x o'):HOk P w (upd H x o') h':=fun b u q=>by
 have a:∀c y,H c=some (.own y)->c≠x:=fun c y r z=>by subst z;rw[r]at mu;exact mu
 by_cases g:b=x
 ·subst g;rw[Zd]at q;cases q;exact new
 ·rw[Zi g]at q
  by_cases f:b=e
  ·have i:H b=some (.own x):=by
    grind
   rw[q]at i;cases i;obtain⟨v,j⟩:=heo;exact⟨v,by rw[f];exact j⟩
  ·refine(ok b u q).stay (fun c v _ r=>k c v ?_ r) (fun c r=>by rw[Zi (a c b r)];exact r) fun c d r=>by rw[Zi ((show∀c d,H c=some _->c≠x from fun c d r z=>by subst z;rw[r]at mu;exact mu) c d r)];exact r
   grind
end
structure Un(fs ex:List Addr)(H H':Hp)(h h':Heap):Prop where
 keep:∀b o,h.get? b=some o->H b=none->b ∉ fs->b ∉ ex->h'.get? b=some o
 slot:∀b o,h.get? b=some o->H b=none->b∈fs->b ∉ ex->∃sl,h'.get? b=some {o with slots:=sl}
 free:∀b o,h.get? b=some o->H b=none->b ∉ ex->H' b=none
 there:∀b o,h.get? b=some o->b ∉ ex->∃o',h'.get? b=some o'
 tups:∀b xs,H b=some (.tup xs)->H' b=some (.tup xs)
 frzs:∀b o u,H b=some (.frz o u)->H' b=some (.frz o u)
 tbls:∀b ps,H b=some (.tbl ps)->∃more,H' b=some (.tbl (ps++more))
section
variable{fs fs' ex ex':List Addr}{H H1 H2:Hp}{h h1 h2 h':Heap}{a x e:Addr}{o:HO}
theorem Un.any(u:Un fs ex H H1 h h1){b}{ob}(q:h.get? b=some ob)(n:H b=none)(hx:b ∉ ex):∃sl,h1.get? b=some {ob with slots:=sl}:=by
 by_cases a:b∈fs
 ·exact u.slot b ob q n a hx
 ·exact⟨_,u.keep b ob q n a hx⟩
theorem Un.trans(a:Un fs ex H H1 h h1)(b:Un fs ex H1 H2 h1 h2):Un fs ex H H2 h h2 where
 keep:=fun c d q n i e=>b.keep c d (a.keep c d q n i e) (a.free c d q n e) i e
 slot:=fun c d q n i e=>by
  obtain⟨_,f⟩:=a.slot c d q n i e;obtain⟨_,k⟩:=b.slot c _ f (a.free c d q n e) i e;exact⟨_,k⟩
 free:=fun c d q n e=>by
  obtain⟨j,f⟩:=a.there c d q e;exact b.free c j f (a.free c d q n e) e
 there:=fun c d q e=>by
  obtain⟨j,f⟩:=a.there c d q e;exact b.there c j f e
 tups:=fun c g q=>b.tups c g (a.tups c g q)
 frzs:=fun c d g q=>b.frzs c d g (a.frzs c d g q)
 tbls:=fun c l q=>by
  obtain⟨_,f⟩:=a.tbls c l q;obtain⟨_,k⟩:=b.tbls c _ f
  grind
theorem Un.kept(k:∀b u,h.get? b=some u->h'.get? b=some u):Un fs ex H H h h':=
 ⟨fun b a q _ _ _=>k b a q,fun b a q _ _ _=>⟨_,k b a q⟩,fun _ _ _ n _=>n,fun b a q _=>⟨a,k b a q⟩,fun _ _ q=>q,fun _ _ _ q=>q,fun _ _ q=>⟨#[],by rw[q];simp⟩⟩
theorem Un.refl:Un fs ex H H h h:=Un.kept fun _ _ q=>q
theorem Un.laid(k:∀b u,h.get? b=some u->h'.get? b=some u) (hp:h.objs.size<=a) (hn:H a=none):Un fs ex H (upd H a o) h h' where
 keep:=fun b u q _ _ _=>k b u q
 slot:=fun b u q _ _ _=>⟨_,k b u q⟩
 free:=fun b u q n _=>by rw[Zi (Qo (Qs (Qh q) hp))];exact n
 there:=fun b u q _=>⟨u,k b u q⟩
 tups:=fun b c q=>by rw[Zi (Zq q hn)];exact q
 frzs:=fun b u c q=>by rw[Zi (Zq q hn)];exact q
 tbls:=fun b _ q=>⟨#[],by rw[Zi (Zq q hn),q];simp⟩
theorem Un.write(mu:Mut (H x))(he:e=x\/H e=some (.own x))(k:∀b u,b≠e->h.get? b=some u->h'.get? b=some u) (heo:∃u,h'.get? e=some u):Un fs ex H (upd H x o) h h':=by
 have f:∀b,H b=none->b≠x:=fun b n z=>by subst z;rw[n]at mu;exact mu
 have d:∀b,H b=none->b≠e:=fun b n z=>by
  simp_all
 have c:∀b u,H b=some u->¬Mut (some u)->b≠x:=fun b u q _ z=>by simp_all
 refine⟨fun b u q n _ _=>k b u (d b n) q,fun b u q n _ _=>⟨_,k b u (d b n) q⟩,fun b u q n _=>by rw[Zi (f b n)];exact n,fun b u q _=>?_,
  fun b g q=>by rw[Zi (c b _ q fun z=>z)];exact q,fun b u g q=>by rw[Zi (c b _ q fun z=>z)];exact q,fun b _ q=>⟨#[],by rw[Zi (c b _ q fun z=>z),q];simp⟩⟩
 grind
theorem Un.mono(u:Un fs ex H H1 h h1)(hs:∀b∈fs,b∈fs') (hx:∀b∈ex,b∈ex'):Un fs' ex' H H1 h h1:=
 ⟨fun b c q n d a=>u.keep b c q n (fun z=>d (hs b z)) fun z=>a (hx b z),fun _ _ q n _ a=>u.any q n fun z=>a (hx _ z),fun b c q n a=>u.free b c q n fun z=>a (hx b z),fun b c q a=>u.there b c q fun z=>a (hx b z),u.tups,u.frzs,u.tbls⟩
end
def trk(h:Heap)(H:Hp):List Addr:=(List.range h.objs.size).filter fun a=>(H a).isSome
def ZdK(h:Heap)(H:Hp):Heap:=PySem.W.hideAll h (trk h H)
theorem Zgh(h)(H):(ZdK h H).objs.size=h.objs.size:=PySem.W.hideAll_size _ _
theorem Zhx{h}{H}{b}{o}(e:h.get? b=some o)(n:H b=none):(ZdK h H).get? b=some o:=
 PySem.W.hideAll_get _ e fun a=>by
  have q:=(Q8.mp a).2;rw[n]at q;simp at q
theorem ZiC{h}{H}{b}{o}(e:(ZdK h H).get? b=some o):h.get? b=some o/\H b=none:=by
 have c:=PySem.W.of_hideAll _ e;refine⟨c,?_⟩;cases q:H b with
 |none=>rfl
 |some x=>
  rw[(show(ZdK h H).get? b=none from PySem.W.hideAll_none _ (show b∈trk h H from Q8.mpr ⟨QC.mpr (Qh c),by simp[q]⟩))]at e;cases e
def Zjj(g h:Heap)(L:Addr):List (Addr×Obj):=(List.range h.objs.size).filterMap fun a=>if a=L\/(g.get? a).isSome=true then none else(h.get? a).map fun o=>(a,o)
def rest(g h:Heap)(L d:Addr):List (Addr×Obj):=(Zjj g h L).filter fun p=>decide (p.1≠d)
structure Mod(K:PySem.W.Frag)(mg:Str->Option Value)(base:Heap):Prop where
 kin:K.In base
 glob:base.Ns mainGlobals mg
 blt:∃mb,base.Ns builtinsNs mb/\∀x:Str,x≠"__name__"->mb x=bootBuiltins x
 nolimit:base.NoLimit
structure Cx where
 prog:Program
 w:World
 K:PySem.W.Frag
 mg:Str->Option Value
 base:Heap
 A:Around
 N:List Str
 s₀:Shared
 H₀:Hp
 env:Env
 outer:List Env
 stack:List Env
 ex:List Addr
 fn:Str->Bool
 calm:Bool
 pn:List (Addr×Obj)
 xe:Value->Shared->Prop
def frs(l:List Env):List Addr:=l.filterMap (·.frame)
abbrev Cx.fs(X:Cx):List Addr:=frs X.outer
def Vis(sc:Scope)(x:Str):Prop:=sc.names.lookup x=some .local\/sc.names.lookup x=some .cell\/sc.names.lookup x=some .free
def Loc(sc:Scope)(x:Str):Prop:=sc.names.lookup x=some .local\/sc.names.lookup x=some .cell
def Look(env:Env)(h:Heap)(m:Str->Option Value)(x:Str)(u:Value):Prop:=
 (env.kindOf x=some .local/\m x=some u)\/((env.kindOf x=some .cell\/env.kindOf x=some .free)/\∃c,env.cells.lookup x=some c/\h.IsCell c (some u))
structure Cx.Ok(X:Cx):Prop where
 mod:Mod X.K X.mg X.base
 kind:X.env.scope.kind= .function
 glob:X.env.globals=mainGlobals
 blt:X.env.builtins=builtinsNs
 above:X.s₀.heap.objs.size<=X.env.locals
 inj:∀x y c,X.env.cells.lookup x=some c->X.env.cells.lookup y=some c->x=y
 has:∀x,(X.env.kindOf x=some .cell\/X.env.kindOf x=some .free)->∃c,X.env.cells.lookup x=some c
 cab:∀x c,X.fn x=true->X.env.cells.lookup x=some c->X.s₀.heap.objs.size<=c
 hd:X.calm=true->X.A.handled=none
 frames:X.A.frames=some X.stack
 stk:X.stack=X.outer\/(X.stack=X.env::X.outer/\X.env.frame=some X.env.locals)
 exf:∀b∈X.ex,b≠X.env.locals/\∀x c,X.env.cells.lookup x=some c->c≠b
 bs:∀b o,X.base.get? b=some o->X.s₀.heap.get? b=some o/\X.H₀ b=none
 bsz:X.base.objs.size<=X.s₀.heap.objs.size
 noex:∀b o,X.base.get? b=some o->b ∉ X.ex
 exfs:∀b∈X.ex,b ∉ X.fs
 funs:X.s₀.heap.FunFrames X.base X.outer
 frf:∀b∈X.fs,X.H₀ b=none
structure Inv(X:Cx)(pins:List (Addr×Obj))(σ:List (Option V))(H:Hp)(s:Shared):Prop where
 ok:X.Ok
 os:s.os=X.s₀.os
 bare:AllBare s.gens
 base:Un X.fs X.ex X.H₀ H X.s₀.heap s.heap
 loc:∃m,s.heap.Ns X.env.locals m/\∀(i:Nat)(x:Str)(v:V),X.N[i]?=some x->σ[i]?=some (some v)->Vis X.env.scope x->∃u,RelV v u/\Look X.env s.heap m x u
 cell:∀x c,X.env.cells.lookup x=some c->∃v,s.heap.IsCell c v
 free:H X.env.locals=none
 freeC:∀x c,X.env.cells.lookup x=some c->H c=none
 pin:∀p∈X.pn++pins,s.heap.get? p.1=some p.2/\H p.1=none/\p.1≠X.env.locals/\p.1 ∉ X.fs/\∀v,p.2.data≠.cell v
 hok:HOk X.prog X.w H s.heap
 len:σ.length=X.N.length
section
variable{X:Cx}{pins:List (Addr×Obj)}{σ:List (Option V)}{H H':Hp}{s:Shared}{h':Heap}
theorem Cx.Ok.nofr(ok:X.Ok){b}{o}(e:X.base.get? b=some o):b ∉ X.fs:=fun a=>by
 have:=(ok.funs.mem a).1
 grind
theorem Inv.bs(I:Inv X pins σ H s):∀b o,X.base.get? b=some o->s.heap.get? b=some o/\H b=none:=fun b o e=>
 ⟨I.base.keep b o (I.ok.bs b o e).1 (I.ok.bs b o e).2 (I.ok.nofr e) (I.ok.noex b o e),I.base.free b o (I.ok.bs b o e).1 (I.ok.bs b o e).2 (I.ok.noex b o e)⟩
theorem Inv.bk(I:Inv X pins σ H s):∀b o,X.base.get? b=some o->s.heap.get? b=some o:=fun b o e=>(I.bs b o e).1
theorem Inv.mod(I:Inv X pins σ H s):Mod X.K X.mg X.base:=I.ok.mod
theorem Inv.kIn(I:Inv X pins σ H s):X.K.In s.heap:=I.ok.mod.kin.keeps I.bk
theorem Inv.nolimit(I:Inv X pins σ H s):s.heap.NoLimit:=I.ok.mod.nolimit.keeps I.bk
theorem Inv.fr(I:Inv X pins σ H s):∃m,Fr X.base X.env.locals s.heap m:=
 let⟨m,a,_⟩:=I.loc
 ⟨m,a,I.bk,QM I.ok.bsz I.ok.above⟩
theorem Inv.lt(I:Inv X pins σ H s):X.env.locals<s.heap.objs.size:=let⟨_,a,_⟩:=I.loc;a.lt
theorem Inv.sz(I:Inv X pins σ H s):X.s₀.heap.objs.size<=s.heap.objs.size:=QM I.ok.above (Vf I.lt)
theorem Inv.nofs(I:Inv X pins σ H s){a:Addr}(h:s.heap.objs.size<=a):a ∉ X.fs:=fun c=>by
 obtain⟨_,o,b,_⟩:=I.ok.funs.mem c;exact absurd (Qs (Qh b) (QM I.sz h)) (QU _)
theorem Inv.cne(I:Inv X pins σ H s):∀x c,X.env.cells.lookup x=some c->c≠X.env.locals:=fun x c e z=>by
 obtain⟨v,o,_,_⟩:=I.cell x c e;obtain⟨m,⟨_,_,_,_,_,_⟩,_⟩:=I.loc
 simp_all
theorem Inv.funs(I:Inv X pins σ H s):s.heap.FunFrames X.base X.outer:=by
 have d:∀(l),(∀b∈frs l,b∈X.fs)->X.s₀.heap.FunFrames X.base l->s.heap.FunFrames X.base l:=by
  intro l
  induction l with
  |nil=>intro _ _;trivial
  |_ _ r m=>
   intro g p;obtain⟨n,⟨L,o,f,k,h,i⟩,j⟩:=p;have a:=g L (by unfold frs;simp_all);obtain⟨_,e⟩:=I.base.slot L o h (I.ok.frf L a) a fun z=>I.ok.exfs L z a;exact⟨n,⟨L,_,f,k,e,i⟩,m (fun b c=>g b (by unfold frs;rw[UH,f];exact Uc _ c)) j⟩
 exact d _ (fun _ c=>c) I.ok.funs
theorem Inv.stack(I:Inv X pins σ H s):s.heap.FunFrames X.base X.stack:=by
 rcases I.ok.stk with e|⟨e,b⟩
 ·rw[e];exact I.funs
 ·rw[e]
  obtain⟨m,a,_⟩:=I.loc;exact .cons (by rw[I.ok.kind];decide) b a (Heap.get?_none_of_le (QM I.ok.bsz I.ok.above)) I.funs
theorem Inv.stkSub(I:Inv X pins σ H s):∀b∈frs X.stack,b∈X.env.locals::X.fs:=fun b a=>by
 rcases I.ok.stk with e|⟨e,c⟩
 ·simp_all
 ·rw[e]at a
  unfold frs at a;rw[UH,c]at a;exact a
theorem Inv.stkFree(I:Inv X pins σ H s):∀b∈frs X.stack,H b=none:=fun b a=>by
 rcases Qn.mp (I.stkSub b a)with e|a
 ·rw[e];exact I.free
 ·obtain⟨_,o,c,_⟩:=I.ok.funs.mem a
  exact I.base.free b o c (I.ok.frf b a) fun z=>I.ok.exfs b z a
theorem Inv.step{g'}{t'}{d'}{ch:List _}(I:Inv X pins σ H s)
  (hch:∀b∈ch,(b∈X.ex\/X.s₀.heap.objs.size<=b)/\b≠X.env.locals/\(∀x c,X.env.cells.lookup x=some c->c≠b)/\∀p∈X.pn++pins,p.1≠b)
  (keep:∀b o,b≠X.env.locals->b ∉ X.fs->b ∉ ch->s.heap.get? b=some o->H b=none->h'.get? b=some o)
  (slot:∀b o,b≠X.env.locals->b∈X.fs->b ∉ ch->s.heap.get? b=some o->H b=none->∃sl,h'.get? b=some {o with slots:=sl}) (free:∀b o,b ∉ ch->s.heap.get? b=some o->H b=none->H' b=none)
  (there:∀b o,b ∉ ch->s.heap.get? b=some o->∃o',h'.get? b=some o')
  (tups:∀b xs,H b=some (.tup xs)->H' b=some (.tup xs)) (frzs:∀b o u,H b=some (.frz o u)->H' b=some (.frz o u)) (tbls:∀b ps,H b=some (.tbl ps)->∃more,H' b=some (.tbl (ps++more)))
  (ns:∀m,s.heap.Ns X.env.locals m->h'.Ns X.env.locals m) (hok:HOk X.prog X.w H' h') (hg:AllBare g'):
  Inv X pins σ H' {s with heap:=h',gens:=g',drawn:=d',toks:=t'}:=by
 have B:∀b o,X.s₀.heap.get? b=some o->b≠X.env.locals:=fun b o e=>Qo (Qs (Qh e) I.ok.above);have j:∀b o,X.s₀.heap.get? b=some o->b ∉ X.ex->b ∉ ch:=fun b o e a t=>by
  rcases(hch b t).1 with z|z
  ·exact a z
  ·exact absurd (Qs (Qh e) z) (QU _)
 have g:∀x c,X.env.cells.lookup x=some c->∀v,s.heap.IsCell c v->h'.IsCell c v:=fun x c e v⟨o,y,C⟩=>by
  have f:=fun z=>(hch c z).2.2.1 x c e rfl;by_cases E:c∈X.fs
  ·obtain⟨sl,q⟩:=slot c o (I.cne x c e) E f y (I.freeC x c e)
   exact⟨_,q,C⟩
  ·exact⟨o,keep c o (I.cne x c e) E f y (I.freeC x c e),C⟩
 refine⟨I.ok,I.os,hg,⟨fun b o e n t a=>?_,fun b o e n t a=>?_,fun b o e n a=>?_,fun b o e a=>?_,fun b xs e=>tups b xs (I.base.tups b xs e),fun b o xs e=>frzs b o xs (I.base.frzs b o xs e),fun b ps e=>?_⟩,?_,fun x c e=>?_,?_,fun x c e=>?_,fun p J=>?_,hok,I.len⟩
 ·exact keep b o (B b o e) t (j b o e a) (I.base.keep b o e n t a) (I.base.free b o e n a)
 ·obtain⟨sl,h⟩:=I.base.slot b o e n t a
  obtain⟨D,A⟩:=slot b _ (B b o e) t (j b o e a) h (I.base.free b o e n a);exact⟨D,A⟩
 ·obtain⟨o',h⟩:=I.base.there b o e a
  exact free b o' (j b o e a) h (I.base.free b o e n a)
 ·obtain⟨o',h⟩:=I.base.there b o e a
  exact there b o' (j b o e a) h
 ·obtain⟨O,h⟩:=I.base.tbls b ps e
  obtain⟨N,A⟩:=tbls b _ h;exact⟨O++N,by rw[A,Array.append_assoc]⟩
 ·obtain⟨m,L,M⟩:=I.loc
  refine⟨m,ns m L,fun i x v h A K=>?_⟩;obtain⟨u,r,l⟩:=M i x v h A K;refine⟨u,r,?_⟩;rcases l with l|⟨k,c,e,z⟩
  ·exact .inl l
  ·exact .inr ⟨k,c,e,g x c e _ z⟩
 ·obtain⟨v,z⟩:=I.cell x c e
  exact⟨v,g x c e v z⟩
 ·obtain⟨m,⟨o,_,_,y,_⟩,_⟩:=I.loc
  exact free _ o (fun z=>(hch _ z).2.1 rfl) y I.free
 ·obtain⟨v,o,y,C⟩:=I.cell x c e
  exact free c o (fun z=>(hch c z).2.2.1 x c e rfl) y (I.freeC x c e)
 ·obtain⟨e,n,F,G,d⟩:=I.pin p J
  have f:=fun z=>(hch p.1 z).2.2.2 p J rfl;exact⟨keep p.1 p.2 F G f e n,free p.1 p.2 f e n,F,G,d⟩
theorem Inv.un{t'}(I:Inv X pins σ H s)(u:Un X.fs [] H H' s.heap h')(hok:HOk X.prog X.w H' h'):Inv X pins σ H' {s with heap:=h',toks:=t'}:=by
 obtain⟨m,⟨o,_,_,d,r⟩,_⟩:=id I.loc;obtain⟨_,h⟩:=u.any d I.free (by simp);exact I.step (ch:=[]) (fun _ z=>nomatch z) (fun b o _ c _ e n=>u.keep b o e n c (by simp)) (fun b o _ c _ e n=>u.slot b o e n c (by simp)) (fun b o _ e n=>u.free b o e n (by simp)) (fun b o _ e=>u.there b o e (by simp)) u.tups u.frzs u.tbls (fun _ f=>by
  obtain⟨_,_,_,a,g⟩:=f;rw[d]at a;cases a;exact⟨_,_,_,h,g⟩) hok I.bare
theorem Inv.call{g'}{t'}{d'}{ch}(I:Inv X pins σ H s)(u:Un (frs X.stack) ch H H' s.heap h')(hok:HOk X.prog X.w H' h')(hg:AllBare g')
  (hch:∀b∈ch,(b∈X.ex\/X.s₀.heap.objs.size<=b)/\b≠X.env.locals/\(∀x c,X.env.cells.lookup x=some c->c≠b)/\∀p∈X.pn++pins,p.1≠b):
  Inv X pins σ H' {s with heap:=h',gens:=g',drawn:=d',toks:=t'}:=by
 obtain⟨m,⟨o,_,_,g,r⟩,_⟩:=id I.loc;obtain⟨_,f⟩:=u.any g I.free fun z=>(hch _ z).2.1 rfl;exact I.step hch (fun b o f i a e n=>u.keep b o e n (fun z=>(Qn.mp (I.stkSub b z)).elim f i) a) (fun b o _ _ a e n=>u.any e n a) (fun b o a e n=>u.free b o e n a) (fun b o a e=>u.there b o e a) u.tups u.frzs u.tbls (fun _ h=>by
  obtain⟨_,_,_,d,j⟩:=h;rw[g]at d;cases d;exact⟨_,_,_,f,j⟩) hok hg
theorem Inv.turned{t'}{it}(I:Inv X pins σ H s)(k:∀b o,b≠it->s.heap.get? b=some o->h'.get? b=some o) (hn:H it=none) (hL:it≠X.env.locals)
  (h1:it∈X.ex\/X.s₀.heap.objs.size<=it) (h2:∀x c,X.env.cells.lookup x=some c->c≠it) (h3:∀p∈X.pn++pins,p.1≠it):Inv X pins σ H {s with heap:=h',toks:=t'}:=by
 refine I.step (ch:=[it]) (fun b h=>?_) (fun b o _ _ a e _=>k b o (fun z=>a (by simp[z])) e) (fun b o _ _ a e _=>⟨_,k b o (fun z=>a (by simp[z])) e⟩) (fun _ _ _ _ n=>n)
  (fun b o a e=>⟨o,k b o (fun z=>a (by simp[z])) e⟩) (fun _ _ e=>e) (fun _ _ _ e=>e) (fun b _ e=>⟨#[],by rw[e];simp⟩) (fun m d=>?_) (fun b u e=>?_) I.bare
 ·have e:b=it:=by simpa using h
  subst e;exact⟨h1,hL,h2,h3⟩
 ·obtain⟨o,g,i,f,r⟩:=d
  exact⟨o,g,i,k _ o (Ne.symm hL) f,r⟩
 ·refine(I.hok b u e).stay (fun c v a q=>k c v ?_ q) (fun _ q=>q) fun _ _ q=>q
  grind
theorem Inv.tok(I:Inv X pins σ H s)(t):Inv X pins σ H {s with toks:=t}:=I.un Un.refl I.hok
theorem Inv.kept{t'}(I:Inv X pins σ H s)(k:∀b u,s.heap.get? b=some u->h'.get? b=some u):Inv X pins σ H {s with heap:=h',toks:=t'}:=I.un (Un.kept k) (I.hok.kept k)
theorem Inv.laid{a:Addr}{o}{t'}(I:Inv X pins σ H s)(k:∀b u,s.heap.get? b=some u->h'.get? b=some u) (hp:s.heap.objs.size<=a) (new:ObjOk X.prog X.w (upd H a o) h' a o):
  Inv X pins σ (upd H a o) {s with heap:=h',toks:=t'}:=I.un (Un.laid k hp (I.hok.fresh hp)) (I.hok.laid k hp new)
theorem Inv.write{x e}{o}{t'}(I:Inv X pins σ H s)(mu:Mut (H x))(he:e=x\/H e=some (.own x))(k:∀b u,b≠e->s.heap.get? b=some u->h'.get? b=some u) (heo:∃u,h'.get? e=some u)
  (new:ObjOk X.prog X.w (upd H x o) h' x o):Inv X pins σ (upd H x o) {s with heap:=h',toks:=t'}:=I.un (Un.write mu he k heo) (I.hok.write mu he k heo new)
theorem Inv.pins_of{pins':List _}(I:Inv X pins σ H s)(h:∀p∈pins',s.heap.get? p.1=some p.2/\H p.1=none/\p.1≠X.env.locals/\p.1 ∉ X.fs/\∀v,p.2.data≠.cell v):Inv X pins' σ H s:=
 ⟨I.ok,I.os,I.bare,I.base,I.loc,I.cell,I.free,I.freeC,fun p a=>(Qw.mp a).elim (fun z=>I.pin p (Qz _ z)) (h p),I.hok,I.len⟩
theorem ZbB{N:List Str}(hN:N.Nodup){i j:Nat}{x}(a:N[i]?=some x)(b:N[j]?=some x):i=j:=by
 obtain⟨_,d⟩:=Qd.mp a;obtain⟨_,c⟩:=Qd.mp b;exact(List.getElem_inj hN).mp (d.trans c.symm)
theorem ZfG{M}{A}{E}{i}{x}{v}{u}{Q}(I:Inv X pins σ H s)(hN:X.N.Nodup)(hi:X.N[i]?=some x)(hx:Loc X.env.scope x)(r:RelV v u)
  (h:∀s',Inv X pins (σ.set i (some v)) H s'->(∃a,Heap.SameBut a s.heap s'.heap/\(a=X.env.locals\/X.env.cells.lookup x=some a))->Q () s') (hf:X.fn x=true\/X.env.scope.names.lookup x=some .local:=by first|exact .inl rfl|exact .inr rfl|assumption):wpAny M A (storeName X.env x u) Q E s:=by
 obtain⟨m,hn,hl⟩:=id I.loc;have T:i<σ.length:=by rw[I.len];exact(Qd.mp hi).1
 have J:=I.cne;have t:∀{a}{L},(∃o,s.heap.get? a=some o/\H a=none)->Heap.SameBut a _ L->HOk _ _ H L:=fun{a L} ha g b ob e=>by
  obtain⟨_,_,B⟩:=ha;refine(I.hok b ob e).stay (fun c W w q=>(g.2 c ?_).trans q) (fun _ q=>q) fun _ _ q=>q;rintro rfl;rcases w with rfl|w
  ·rw[B]at e;cases e
  ·rw[B]at w;cases w
 rcases hx with D|D
 ·refine wpAny_storeName_local D hn (fun L a1 g=>?_) (show(X.env.scope.kind== .class||(X.env.scope.kind== .module&&X.env.locals !=X.env.globals))=_ by rw[I.ok.kind];rfl)
  obtain⟨oL,_,_,a2,_⟩:=id hn;refine h _ ⟨I.ok,I.os,I.bare,⟨fun b o e n F hx=>?_,fun b o e n F hx=>?_,I.base.free,fun b o e hx=>?_,I.base.tups,I.base.frzs,I.base.tbls⟩,⟨_,a1,fun j y v' l C Z=>?_⟩,fun y c e=>?_,I.free,I.freeC,fun p Y=>?_,t ⟨oL,a2,I.free⟩ g,by simpa using I.len⟩ ⟨_,g,.inl rfl⟩
  ·exact(g.2 b (Qo (Qs (Qh e) I.ok.above))).trans (I.base.keep b o e n F hx)
  ·obtain⟨sl,l⟩:=I.base.slot b o e n F hx
   exact⟨sl,(g.2 b (Qo (Qs (Qh e) I.ok.above))).trans l⟩
  ·obtain⟨o',l⟩:=I.base.there b o e hx
   exact⟨o',(g.2 b (Qo (Qs (Qh e) I.ok.above))).trans l⟩
  ·by_cases G:j=i
   ·subst G
    rw[hi]at l;cases l;rw[List.getElem?_set_self T]at C;cases C;exact⟨u,r,.inl ⟨D,by simp⟩⟩
   ·rw[List.getElem?_set_ne (Ne.symm G)]at C
    obtain⟨u',r',q⟩:=hl j y v' l C Z;refine⟨u',r',?_⟩;rcases q with⟨k,e⟩|⟨k,c,e,z⟩
    ·refine .inl ⟨k,?_⟩
     have:y≠x:=fun e=>G (ZbB hN l (e▸hi));simp[this,e]
    ·exact .inr ⟨k,c,e,z.sameBut g (J y c e)⟩
  ·obtain⟨W,z⟩:=I.cell y c e
   exact⟨W,z.sameBut g (J y c e)⟩
  ·obtain⟨e,n,V,nf,d⟩:=I.pin p Y
   exact⟨(g.2 p.1 V).trans e,n,V,nf,d⟩
 ·have K:X.fn x=true:=by
   rcases hf with z|z
   ·exact z
   ·rw[z]at D;cases D
  obtain⟨c,w⟩:=I.ok.has x (.inl D);obtain⟨W,z⟩:=I.cell x c w;refine wpAny_storeName_cell I.ok.kind D w z (fun L P g=>?_);obtain⟨oc,O,R⟩:=id z;refine h {s with heap:=L} ⟨I.ok,I.os,I.bare,⟨fun b o e n F hx=>?_,fun b o e n F hx=>?_,I.base.free,fun b o e hx=>?_,I.base.tups,I.base.frzs,I.base.tbls⟩,⟨m,hn.sameBut g (Ne.symm (J x c w)),fun j y v' l C Z=>?_⟩,fun y U e=>?_,I.free,I.freeC,fun p Y=>?_,t ⟨oc,O,I.freeC x c w⟩ g,by simpa using I.len⟩ ⟨c,g,.inr w⟩
  ·exact(g.2 b (Qo (Qs (Qh e) (I.ok.cab x c K w)))).trans (I.base.keep b o e n F hx)
  ·obtain⟨sl,l⟩:=I.base.slot b o e n F hx
   exact⟨sl,(g.2 b (Qo (Qs (Qh e) (I.ok.cab x c K w)))).trans l⟩
  ·obtain⟨o',l⟩:=I.base.there b o e hx
   exact⟨o',(g.2 b (Qo (Qs (Qh e) (I.ok.cab x c K w)))).trans l⟩
  ·by_cases G:j=i
   ·subst G
    rw[hi]at l;cases l;rw[List.getElem?_set_self T]at C;cases C;exact⟨u,r,.inr ⟨.inl D,c,w,P⟩⟩
   ·rw[List.getElem?_set_ne (Ne.symm G)]at C
    obtain⟨u',r',q⟩:=hl j y v' l C Z;refine⟨u',r',?_⟩;rcases q with q|⟨k,U,e,z'⟩
    ·exact .inl q
    ·refine .inr ⟨k,U,e,z'.sameBut g ?_⟩
     rintro rfl;exact G (ZbB hN l (I.ok.inj _ _ _ e w▸hi))
  ·by_cases S:U=c
   ·subst S;exact⟨_,P⟩
   ·obtain⟨w2,z2⟩:=I.cell y U e
    exact⟨w2,z2.sameBut g S⟩
  ·obtain⟨e,n,V,nf,d⟩:=I.pin p Y
   refine⟨(g.2 p.1 ?_).trans e,n,V,nf,d⟩;intro q;rw[q,O]at e;exact d W (by rw[<-(Option.some.inj e)];exact R)
theorem Zak{M}{A}{E}{i}{x}{v}{u}{Q}(I:Inv X pins σ H s)(hN:X.N.Nodup)(hi:X.N[i]?=some x)(hx:Loc X.env.scope x)(r:RelV v u)
  (h:∀s',Inv X pins (σ.set i (some v)) H s'->Q () s') (hf:X.fn x=true\/X.env.scope.names.lookup x=some .local:=by first|exact .inl rfl|exact .inr rfl|assumption):wpAny M A (storeName X.env x u) Q E s:=
 ZfG I hN hi hx r (fun s' a _=>h s' a) hf
theorem Inv.call'{s'}{ch}(I:Inv X pins σ H s)(ho:s'.os=s.os)(u:Un (frs X.stack) ch H H' s.heap s'.heap)(hok:HOk X.prog X.w H' s'.heap)(hg:AllBare s'.gens)
  (hch:∀b∈ch,(b∈X.ex\/X.s₀.heap.objs.size<=b)/\b≠X.env.locals/\(∀x c,X.env.cells.lookup x=some c->c≠b)/\∀p∈X.pn++pins,p.1≠b):Inv X pins σ H' s':=by
 obtain⟨_,_,_,_,_⟩:=s';subst ho;exact I.call u hok hg hch
end
abbrev XK:=Value->Option Addr->Hp->Prop
abbrev St:=List (Option V)
abbrev VK:=V->Hp->Prop
abbrev TE:=St->Hp->VK->Prop
abbrev TT:=St->Hp->(Bool->Hp->Prop)->Prop
abbrev TA:=St->Hp->(List V->Hp->Prop)->Prop
structure Ends where
 nx:St->Hp->Prop
 rt:VK
 bk:St->Hp->Prop:=fun _ _=>False
 ct:St->Hp->Prop:=fun _ _=>False
abbrev TS:=Ends->St->Hp->Prop
def EP(X:Cx)(pins:List (Addr×Obj))(σ:St)(Q:VK)(u:Value)(s':Shared):Prop:=∃v H',Inv X pins σ H' s'/\RelV v u/\Q v H'
def TP(X:Cx)(pins:List (Addr×Obj))(σ:St)(Q:Bool->Hp->Prop)(b:Bool)(s':Shared):Prop:=∃H',Inv X pins σ H' s'/\Q b H'
def AP(X:Cx)(pins:List (Addr×Obj))(σ:St)(Q:List V->Hp->Prop)(us:List Value)(s':Shared):Prop:=∃vs H',Inv X pins σ H' s'/\Vals vs us/\Q vs H'
def SP(X:Cx)(pins:List (Addr×Obj))(D:Ends)(f:Flow)(s':Shared):Prop:=
 match f with
 | .next=>∃σ' H',Inv X pins σ' H' s'/\D.nx σ' H'
 | .brk=>∃σ' H',Inv X pins σ' H' s'/\D.bk σ' H'
 | .cont=>∃σ' H',Inv X pins σ' H' s'/\D.ct σ' H'
 | .ret u=>∃v σ' H',Inv X pins σ' H' s'/\RelV v u/\D.rt v H'
def PE(X:Cx)(e:Expr)(t:TE):Prop:=
 ∀(pins)(s)(σ:St)(H)(Q),Inv X pins σ H s->t σ H Q->wpAny (model X.prog X.w) X.A (eval e X.env) (EP X pins σ Q) X.xe s
def PT(X:Cx)(e:Expr)(t:TT):Prop:=
 ∀(pins)(s)(σ:St)(H)(Q),Inv X pins σ H s->t σ H Q->wpAny (model X.prog X.w) X.A (isTrue e X.env (eval e X.env)) (TP X pins σ Q) X.xe s
def PW(X:Cx)(e:Expr)(t:TT):Prop:=
 ∀(whole)(pins)(s)(σ:St)(H)(Q),Inv X pins σ H s->t σ H Q->wpAny (model X.prog X.w) X.A (isTrue e X.env whole) (TP X pins σ Q) X.xe s
theorem PW.pt{X}{e}{t}(h:PW X e t):PT X e t:=h _
def PA(X:Cx)(es:List Expr)(t:TA):Prop:=
 ∀(pos)(pins)(s)(σ:St)(H)(Q),Inv X pins σ H s->t σ H Q->wpAny (model X.prog X.w) X.A (spliced (backTo pos (starEach es X.env))) (AP X pins σ Q) X.xe s
def PS(X:Cx)(st:Stmt)(t:TS):Prop:=
 ∀(pins)(s)(σ:St)(H)(D),Inv X pins σ H s->t D σ H->wpAny (model X.prog X.w) X.A (exec st X.env) (SP X pins D) X.xe s
def PSs(X:Cx)(st:List Stmt)(t:TS):Prop:=
 ∀(pins)(s)(σ:St)(H)(D),Inv X pins σ H s->t D σ H->wpAny (model X.prog X.w) X.A (execs st X.env) (SP X pins D) X.xe s
theorem thn{α}{t}{Q Q':α->Shared->Prop}{M}{A}{E}{s}(h:wpAny M A t Q E s)(hQ:∀a s,Q a s->Q' a s):wpAny M A t Q' E s:=Q2 h hQ fun _ _ x=>x
section
variable{X:Cx}
theorem bin{a b}{ta tb}(ha:PE X a ta)(hb:PE X b tb){pins}{s}{σ:St}{H}{R:V->V->Hp->Prop}(I:Inv X pins σ H s)(h:ta σ H fun x H1=>tb σ H1 fun y H2=>R x y H2)
  {α} {Q} {f:Value->Value->Sem α}
  (hf:∀v u s2 x y H2,Inv X pins σ H2 s2->RelV x v->RelV y u->R x y H2->wpAny (model X.prog X.w) X.A (f v u) Q X.xe s2):
  wpAny (model X.prog X.w) X.A (eval a X.env) (fun v s₁=>wpAny (model X.prog X.w) X.A (eval b X.env) (fun u s₂=>wpAny (model X.prog X.w) X.A (f v u) Q X.xe s₂) X.xe s₁) X.xe s:=thn (ha pins s σ H _ I h) fun v d⟨x,H1,j,i,k⟩=>thn (hb pins d σ H1 _ j k) fun u s2⟨y,H2,g,e,c⟩=>hf v u s2 x y H2 g i e c
inductive Zaj(i:Nat)(σ:St)(H:Hp)(Q:VK):Prop
 |mk (v:_) (_:σ[i]?=some (some v)) (_:Q v H)
def tC(v:V):TE:=fun _ H Q=>Q v H
theorem Zkk{i}{x}{pos}(hN:X.N[i]?=some x)(hv:Vis X.env.scope x)(hd:(x==("__debug__":Str))=false:=by decide)(hcd:(x==("__classdict__":Str))=false:=by decide):PE X (.Name x pos) (Zaj i):=by
 intro _ s σ H Q I h;obtain⟨v,e,h⟩:=h;obtain⟨m,k,j⟩:=I.loc;obtain⟨u,r,l⟩:=j i x v hN e hv;have d:EP X _ σ Q u s:=⟨v,H,I,r,h⟩;rcases l with⟨b,g⟩|⟨b,c,f,a⟩
 ·exact wpAny_Name (wpAny_loadName_local I.ok.kind b k g d) hd
 ·rcases b with b|b
  ·exact wpAny_Name (wpAny_loadName_cell I.ok.kind b f a d) hd
  ·exact wpAny_Name (wpAny_loadName_free I.ok.kind b f a d hcd) hd
theorem Ze{i j pos}:PE X (.Constant (.int i) j pos) (tC (.int i)):=fun _ _ _ H _ I h=>wpAny_Constant_int ⟨.int i,H,I.tok _,⟨_,rfl⟩,h⟩
theorem YV{b j pos}:PE X (.Constant (.bool b) j pos) (tC (.bl b)):=fun _ _ _ H _ I h=>Constant_bool ⟨.bl b,H,I,rfl,h⟩
theorem ZH{j pos}:PE X (.Constant .none j pos) (tC .non):=fun _ _ _ H _ I h=>Constant_none ⟨.non,H,I,rfl,h⟩
theorem ZM{x j pos}:PE X (.Constant (.str x) j pos) (tC (.str x)):=fun _ _ _ H _ I h=>Calls.Constant_str ⟨.str x,H,I.tok _,⟨_,rfl⟩,h⟩
def Gl(X:Cx)(x:Str):Prop:=X.env.kindOf x=some .globalImplicit
theorem Jp{E}{pins}{s}{σ:St}{H}{x}{u}{pos}{Q}(I:Inv X pins σ H s)(hg:Gl X x)(hm:X.mg x=some u)(h:Q u s)
  (hd:(x==("__debug__":Str))=false:=by decide):wpAny (model X.prog X.w) X.A (eval (.Name x pos) X.env) Q E s:=
 Calls.Name_function_global I.ok.kind hg (Calls.loadGlobal_global (by rw[I.ok.glob];exact I.mod.glob.keeps I.bk) hm h) hd
theorem Jq{E}{pins}{s}{σ:St}{H}{x}{u}{pos}{Q}(I:Inv X pins σ H s)(hg:Gl X x)(hm:X.mg x=none)(hv:bootBuiltins x=some u)(h:Q u s)
  (hn:x≠"__name__":=by decide)(hd:(x==("__debug__":Str))=false:=by decide):wpAny (model X.prog X.w) X.A (eval (.Name x pos) X.env) Q E s:=by
 obtain⟨_,b,c⟩:=I.mod.blt;exact Calls.Name_function_global I.ok.kind hg (Calls.loadGlobal_builtin (by rw[I.ok.glob];exact I.mod.glob.keeps I.bk) hm (by rw[I.ok.blt];exact b.keeps I.bk) ((c x hn).trans hv) h) hd
theorem Jj{x}{v}{u}{pos}(hg:Gl X x)(hm:X.mg x=some u)(r:RelV v u)(hd:(x==("__debug__":Str))=false:=by decide):PE X (.Name x pos) (tC v):=
 fun _ _ _ H _ I h=>Jp I hg hm ⟨v,H,I,r,h⟩ hd
theorem YC{x}{v}{u}{pos}(hg:Gl X x)(hm:X.mg x=none)(hv:bootBuiltins x=some u)(r:RelV v u)(hn:x≠"__name__":=by decide)(hd:(x==("__debug__":Str))=false:=by decide):PE X (.Name x pos) (tC v):=
 fun _ _ _ H _ I h=>Jq I hg hm hv ⟨v,H,I,r,h⟩ hn hd
variable{a b:Expr}{ta tb:TE}{pos:Pos}
def PC(X:Cx)(op:CmpOp)(a b:Expr)(t:TE):Prop:=
 ∀(pins)(s)(σ:St)(H)(Q),Inv X pins σ H s->t σ H Q->
  wpAny (model X.prog X.w) X.A (eval a X.env) (fun v s₁=>wpAny (model X.prog X.w) X.A (eval b X.env) (fun u s₂=>wpAny (model X.prog X.w) X.A (compareOp op v u) (EP X pins σ Q) X.xe s₂) X.xe s₁) X.xe s
theorem Zhe(b){op}(h:op≠.In)(h2:op≠.NotIn):behindInMarks op b=false:=by
 cases b<;>simp[behindInMarks,(show(op==CmpOp.In)=false by grind),(show(op==CmpOp.NotIn)=false by grind)]
def tB(t:TE):TT:=fun σ H Q=>t σ H fun x H1=>∃c,x= .bl c/\Q c H1
theorem J1{op}{t}(h:PC X op a b t)(h1:behindInMarks op b=false:=by first|exact Zhe _ (by decide) (by decide)|rfl):PT X (.Compare a [op] [b] pos) (tB t):=by
 refine fun e s σ H Q I j=>wpAny_isTrue_Compare1 (thn (h e s σ H _ I j) fun v _ h1=>thn h1 fun u _ l=>thn l fun c _ xq1=>?_) h1;obtain⟨x,f,i,g,k⟩:=xq1;obtain⟨d,rfl,q⟩:=k;cases g;exact Uu ⟨f,i,q⟩
theorem Yb{e}{t}(h:PE X e t)(he:∀whole,isTrue e X.env whole=(do let v<-whole;standAt e.pos;holding [v] (truthy v)):=by intro _;rfl):PT X e (tB t):=by
 refine fun a s σ H Q I c=>isTrue_plain (thn (h a s σ H _ I c) fun v _ xq1=>?_) (he _);obtain⟨x,i,b,f,g⟩:=xq1;obtain⟨d,rfl,q⟩:=g;cases f;exact Uu ⟨i,b,q⟩
variable{tA tB':TT}{rest:List Expr}
def Znr(t u:TT):TT:=fun σ H Q=>t σ H fun c H1=>if c=true then u σ H1 Q else Q false H1
def tOr(t u:TT):TT:=fun σ H Q=>t σ H fun c H1=>if c=true then Q true H1 else u σ H1 Q
def Znj(t:TT):TT:=fun σ H Q=>t σ H fun c H1=>Q (!c) H1
theorem pw_and1(ha:PT X a tA):PW X (.BoolOp .And [a] pos) tA:=by
 refine fun _ b s σ H Q I h=>isTrue_and (thn (ha b s σ H Q I h) fun c _ e=>?_);cases c with
 |true=>exact isTrue_and_nil e
 |_=>exact e
theorem pw_or1(ha:PT X a tA):PW X (.BoolOp .Or [a] pos) tA:=by
 refine fun _ b s σ H Q I h=>isTrue_or (thn (ha b s σ H Q I h) fun c _ e=>?_);cases c with
 |false=>exact isTrue_or_nil e
 |_=>exact e
theorem pw_and(ha:PT X a tA)(hb:PW X (.BoolOp .And (b::rest) pos) tB'):PW X (.BoolOp .And (a::b::rest) pos) (Znr tA tB'):=by
 refine fun i d s σ H Q I h=>isTrue_and (thn (ha d s σ H _ I h) fun c j xq1=>?_);obtain⟨e,g,f⟩:=xq1;cases c with
 |true=>exact hb i _ j σ e Q g f
 |_=>exact⟨e,g,f⟩
theorem pw_or(ha:PT X a tA)(hb:PW X (.BoolOp .Or (b::rest) pos) tB'):PW X (.BoolOp .Or (a::b::rest) pos) (tOr tA tB'):=by
 refine fun i d s σ H Q I h=>isTrue_or (thn (ha d s σ H _ I h) fun c j xq1=>?_);obtain⟨e,g,f⟩:=xq1;cases c with
 |true=>exact⟨e,g,f⟩
 |_=>exact hb i _ j σ e Q g f
theorem Yq(ha:PT X a tA):PT X (.UnaryOp .Not a pos) (Znj tA):=fun _ s σ H Q I h=>isTrue_not (ha _ s σ H (fun c b=>Q _ b) I h)
def Zlr(ta tb:TE):TE:=fun σ H Q=>ta σ H fun x H1=>∃c,x= .bl c/\if c=true then tb σ H1 Q else Q (.bl false) H1
def Zlh(ta:TE):TE:=fun σ H Q=>ta σ H fun x H1=>∃c,x= .bl c/\Q (.bl (!c)) H1
theorem YO{op}{t}(h:PE X a t):PE X (.BoolOp op [a] pos) t:=fun b s σ H Q I c=>BoolOp_one (h b s σ H Q I c)
theorem Ys(ha:PE X a ta)(hb:PE X (.BoolOp .And (b::rest) pos) tb):PE X (.BoolOp .And (a::b::rest) pos) (Zlr ta tb):=by
 refine fun e s σ H Q I h=>BoolOp_and (thn (ha e s σ H _ I h) fun v j xq1=>?_);obtain⟨x,i,g,k,f⟩:=xq1;obtain⟨c,rfl,f⟩:=f;cases k;refine Uu ?_;cases c with
 |true=>exact hb _ j σ i Q g f
 |false=>exact⟨.bl false,i,g,rfl,f⟩
theorem Zeu(ha:PE X a ta):PE X (.UnaryOp .Not a pos) (Zlh ta):=by
 refine fun b s σ H Q I h=>UnaryOp_ (thn (ha b s σ H _ I h) fun v _ xq1=>?_);obtain⟨x,g,f,e,d⟩:=xq1;obtain⟨c,rfl,d⟩:=d;cases e;exact not_of (Uu ⟨.bl (!c),g,f,rfl,d⟩)
def tIf(t:TT)(ta tb:TE):TE:=fun σ H Q=>t σ H fun c H1=>if c=true then ta σ H1 Q else tb σ H1 Q
theorem YH{c}(hc:PT X c tA)(ha:PE X a ta)(hb:PE X b tb):PE X (.IfExp c a b pos) (tIf tA ta tb):=by
 refine fun e s σ H Q I h=>wpAny_IfExp (thn (hc e s σ H _ I h) fun d f xq1=>?_);obtain⟨i,j,g⟩:=xq1;cases d with
 |true=>exact ha _ f σ i Q j g
 |_=>exact hb _ f σ i Q j g
end
def SqL(K:PySem.W.Frag)(H:Hp)(a:Addr)(xs:List V):Prop:=
 Rd H a (.lst xs)\/
  ∃(o:Obj)(its:Array Value)(n:Nat),K.lookup a=some o/\o.cls= .type "list"/\o.dict=none/\o.data= .seq its n/\its.size<=sizeLine/\Vals xs its.toList
def SqT(K:PySem.W.Frag)(H:Hp)(a:Addr)(xs:List V):Prop:=
 Rd H a (.tup xs)\/
  ∃(o:Obj)(its:Array Value)(n:Nat),K.lookup a=some o/\o.cls= .type "tuple"/\o.data= .seq its n/\its.size<=sizeLine/\Vals xs its.toList
def Zoe:Value->Option V
 | .none=>some .non
 | .bool b=>some (.bl b)
 | .int i _=>some (.int i)
 | .str x _=>some (.str x)
 | .bytes b _=>some (.byt b)
 | .float b _=>some (.flt b)
 | .ref a=>some (.ref a)
 | .type n=>some (.ty n)
 |_=>none
theorem RelV.abs{x}{u}(r:RelV x u):Zoe u=some x:=by
 cases x with
 |non=>cases r;rfl
 |bl _=>cases r;rfl
 |int _=>obtain⟨t,rfl⟩:=r;rfl
 |str _=>obtain⟨t,rfl⟩:=r;rfl
 |byt _=>obtain⟨t,rfl⟩:=r;rfl
 |flt _=>obtain⟨t,rfl⟩:=r;rfl
 |ref _=>cases r;rfl
 |_ _=>cases r;rfl
theorem RelV.inj{x y}{u}(r:RelV x u)(q:RelV y u):x=y:=Option.some.inj (r.abs.symm.trans q.abs)
theorem Vals.inj:∀{xs ys}{us},Vals xs us->Vals ys us->xs=ys
 |_,_,_,.nil,.nil=>rfl
 |_,_,_,.cons r t,.cons d c=>by rw[r.inj d,Vals.inj t c]
section
variable{X:Cx}{pins:List (Addr×Obj)}{σ:St}{H:Hp}{s:Shared}{a:Addr}{xs ys:List V}
theorem SqL.of{K}(h:H a=some (.lst xs)):SqL K H a xs:= .inl (.inl h)
theorem SqT.of{K}(h:H a=some (.tup xs)):SqT K H a xs:= .inl (.inl h)
theorem Inv.list(I:Inv X pins σ H s)(h:SqL X.K H a xs):∃its,Vals xs its/\PlainL s.heap a its.toArray/\xs.length<=sizeLine:=by
 rcases h with h|⟨o,its,n,b,c,f,d,_,r⟩
 ·obtain⟨z,its,n,r,e⟩:=h.ok I.hok
  exact⟨_,r,⟨_,n,e,rfl,rfl,rfl⟩,z⟩
 ·refine⟨_,r,⟨o,n,I.kIn a o b,c,f,by simpa using d⟩,?_⟩
  have e:=r.length
  simp_all
theorem Inv.tuple(I:Inv X pins σ H s)(h:SqT X.K H a xs):∃its,Vals xs its/\IsTup s.heap a its.toArray/\xs.length<=sizeLine:=by
 rcases h with h|⟨o,its,n,b,d,c,_,r⟩
 ·obtain⟨z,its,r,p⟩:=h.ok I.hok
  exact⟨_,r,p,z⟩
 ·refine⟨_,r,⟨o,I.kIn a o b,d,n,by simpa using c⟩,?_⟩
  have e:=r.length
  simp_all
theorem Inv.list_inj(I:Inv X pins σ H s)(h:SqL X.K H a xs)(h':SqL X.K H a ys):xs=ys:=by
 obtain⟨c,r,⟨o,n,e,_,_,d⟩,_⟩:=I.list h;obtain⟨b,i,⟨_,_,f,_,_,g⟩,_⟩:=I.list h';rw[e]at f;cases f;rw[d]at g
 injection g with _ _
 have:c=b:=by grind
 subst this;exact r.inj i
theorem Inv.tuple_inj(I:Inv X pins σ H s)(h:SqT X.K H a xs)(h':SqT X.K H a ys):xs=ys:=by
 obtain⟨c,r,⟨o,e,_,n,d⟩,_⟩:=I.tuple h;obtain⟨b,i,⟨_,f,_,_,g⟩,_⟩:=I.tuple h';rw[e]at f;cases f;rw[d]at g
 injection g with _ _
 have:c=b:=by grind
 subst this;exact r.inj i
end
abbrev Cx.wish(X:Cx)(E:Value->Shared->Prop):Cx:={X with xe:=E}
abbrev Cx.nox(X:Cx):Cx:=X.wish fun _ _=>False
theorem Cx.Ok.wish{X:Cx}(ok:X.Ok)(E:Value->Shared->Prop):(X.wish E).Ok:=
 ⟨ok.mod,ok.kind,ok.glob,ok.blt,ok.above,ok.inj,ok.has,ok.cab,ok.hd,ok.frames,ok.stk,ok.exf,ok.bs,ok.bsz,ok.noex,ok.exfs,ok.funs,ok.frf⟩
theorem Cx.Ok.unwish{X:Cx}{E:Value->Shared->Prop}(ok:(X.wish E).Ok):X.Ok:=
 ⟨ok.mod,ok.kind,ok.glob,ok.blt,ok.above,ok.inj,ok.has,ok.cab,ok.hd,ok.frames,ok.stk,ok.exf,ok.bs,ok.bsz,ok.noex,ok.exfs,ok.funs,ok.frf⟩
section
variable{X:Cx}{pins:List (Addr×Obj)}{σ:St}{H:Hp}{s:Shared}{E:Value->Shared->Prop}
theorem Inv.wish(I:Inv X pins σ H s)(E:Value->Shared->Prop):Inv (X.wish E) pins σ H s:=⟨I.ok.wish E,I.os,I.bare,I.base,I.loc,I.cell,I.free,I.freeC,I.pin,I.hok,I.len⟩
theorem Inv.unwish(I:Inv (X.wish E) pins σ H s):Inv X pins σ H s:=⟨I.ok.unwish,I.os,I.bare,I.base,I.loc,I.cell,I.free,I.freeC,I.pin,I.hok,I.len⟩
theorem SP.unwish{D}{f}{s'}(h:SP (X.wish E) pins D f s'):SP X pins D f s':=by
 cases f with
 |next=>obtain⟨b,a,I,q⟩:=h;exact⟨_,a,I.unwish,q⟩
 |brk=>obtain⟨b,a,I,q⟩:=h;exact⟨_,a,I.unwish,q⟩
 |cont=>obtain⟨b,a,I,q⟩:=h;exact⟨_,a,I.unwish,q⟩
 |ret u=>obtain⟨v,b,a,I,r,q⟩:=h;exact⟨v,_,a,I.unwish,r,q⟩
theorem PE.nox{e}{t}(h:PE X.nox e t):PE X e t:=fun a s σ H Q I d=>
 Q2 (h a s σ H Q (I.wish _) d) (fun _ _⟨v,b,c,r,q⟩=>⟨v,b,c.unwish,r,q⟩) fun _ _ z=>False.elim z
theorem PT.nox{e}{t}(h:PT X.nox e t):PT X e t:=fun a s σ H Q I d=>
 Q2 (h a s σ H Q (I.wish _) d) (fun _ _⟨b,c,q⟩=>⟨b,c.unwish,q⟩) fun _ _ z=>False.elim z
theorem PSs.nox{st}{t}(h:PSs X.nox st t):PSs X st t:=fun a s σ H D I b=>
 Q2 (h a s σ H D (I.wish _) b) (fun _ _ q=>q.unwish) fun _ _ z=>False.elim z
end
section
variable{X:Cx}{st:Stmt}{rest:List Stmt}{t u:TS}{e:Expr}{te:TE}{pos:Pos}
def tNext:TS:=fun D σ H=>D.nx σ H
def Zng(t u:TS):TS:=fun D σ H=>t {D with nx:=u D} σ H
theorem Zw:PSs X [] tNext:=fun _ _ σ H _ I h=>wpAny_execs_nil ⟨σ,H,I,h⟩
theorem Zb(h1:PS X st t)(h2:PSs X rest u):PSs X (st::rest) (Zng t u):=by
 refine fun a s σ H D I h=>wpAny_execs_cons (thn (h1 a s σ H {D with nx:=u D} I h) fun f b q=>?_);cases f with
 |next=>
  obtain⟨_,d,c,q⟩:=q;exact h2 _ b _ d D c q
 |ret v=>exact q
 |brk=>exact q
 |_=>exact q
theorem Zf(h1:PS X st t):PSs X [st] t:=by
 refine fun a s σ H D I h=>wpAny_execs_cons (thn (h1 a s σ H D I h) fun f _ q=>?_);cases f with
 |next=>exact wpAny_execs_nil q
 |ret v=>exact q
 |brk=>exact q
 |_=>exact q
theorem Inv.quiet{pins}{σ:St}{H}{s}(I:Inv X pins σ H s):interactive X.env=false:=by simp[interactive,I.ok.kind]
def Zlo(te:TE):TS:=fun D σ H=>te σ H fun _ H1=>D.nx σ H1
theorem ZF(he:PE X e te)(hs:swapsWith e none pos.line X.env=pure false:=by rfl):PS X (.Expr e pos) (Zlo te):=fun a s σ H D I h=>wpAny_Expr_any (thn (he a s σ H _ I h) fun v _⟨x,c,b,_,d⟩=>⟨σ,c,b,d⟩) I.quiet hs
def Zni(te:TE):TS:=fun D σ H=>te σ H D.rt
theorem Zn(he:PE X e te):PS X (.Return (some e) pos) (Zni te):=fun a s σ H D I h=>wpAny_Return_some (thn (he a s σ H _ I h) fun v _⟨x,f,b,c,d⟩=>⟨x,σ,f,b,c,d⟩)
def Znn(c:TT)(t u:TS):TS:=fun D σ H=>c σ H fun b H1=>if b=true then t D σ H1 else u D σ H1
theorem Z2{c}{a b}{tc}(hc:PT X c tc)(ha:PSs X a t)(hb:PSs X b u):PS X (.If c a b pos) (Znn tc t u):=by
 refine fun e s σ H D I h=>wpAny_If (thn (hc e s σ H _ I h) fun d f xq1=>?_);obtain⟨i,j,g⟩:=xq1;cases d with
 |true=>exact ha _ f σ i D j g
 |_=>exact hb _ f σ i D j g
def tNever:TS:=fun _ _ _=>False
theorem ZO{sts}:PSs X sts tNever:=fun _ _ _ _ _ _ h=>h.elim
end
abbrev TG:=V->St->Hp->(St->Hp->Prop)->Prop
abbrev TGs:=List V->St->Hp->(St->Hp->Prop)->Prop
def PG(X:Cx)(target:Expr)(t:TG):Prop:=
 ∀(pins:List (Addr×Obj))(s)(σ:St)(H)(v)(u)(Q:St->Hp->Prop),Inv X pins σ H s->RelV v u->t v σ H Q->
  wpAny (model X.prog X.w) X.A (assign target X.env u) (fun _ s'=>∃σ' H',Inv X pins σ' H' s'/\Q σ' H') X.xe s
def PGs(X:Cx)(ts:List Expr)(t:TGs):Prop:=
 ∀(pins:List (Addr×Obj))(s)(σ:St)(H)(vs:List V)(us:List Value)(Q:St->Hp->Prop),Inv X pins σ H s->Vals vs us->t vs σ H Q->
  wpAny (model X.prog X.w) X.A (assignInOrder ((assignEach ts X.env).map (·.2)) us) (fun _ s'=>∃σ' H',Inv X pins σ' H' s'/\Q σ' H') X.xe s
abbrev Zla:=V->V->V->Hp->(Hp->Prop)->Prop
def Zjn(X:Cx)(t:Zla):Prop:=
 ∀(pins:List (Addr×Obj))(s)(σ:St)(H)(o i v)(ov iv u)(Q:Hp->Prop),Inv X pins σ H s->RelV o ov->RelV i iv->RelV v u->t o i v H Q->
  wpAny (model X.prog X.w) X.A (setItem ov iv u) (fun _ s'=>∃H',Inv X pins σ H' s'/\Q H') X.xe s
abbrev TIp:=V->V->Hp->VK->Prop
def PIp(X:Cx)(op:Operator)(t:TIp):Prop:=
 ∀(pins)(s)(σ:St)(H)(x y)(v u)(Q),Inv X pins σ H s->RelV x v->RelV y u->t x y H Q->
  wpAny (model X.prog X.w) X.A (inplaceOp op v u) (EP X pins σ Q) X.xe s
section
variable{X:Cx}{pos:Pos}
def ZaZ(i:Nat):TG:=fun v σ H Q=>Q (σ.set i (some v)) H
theorem Zu{i}{x}(hN:X.N.Nodup)(hi:X.N[i]?=some x)(hx:Loc X.env.scope x)(hf:X.fn x=true\/X.env.scope.names.lookup x=some .local:=by first|exact .inl rfl|exact .inr rfl|assumption):PG X (.Name x pos) (ZaZ i):=fun _ s σ H v u Q I r h=>wpAny_assign_Name (Zak I hN hi hx r (fun _ a=>⟨_,H,a,h⟩) hf)
def gNil:TGs:=fun vs σ H Q=>vs=[]/\Q σ H
def ZmB(t:TG)(u:TGs):TGs:=fun vs σ H Q=>∃v r,vs=v::r/\t v σ H fun σ' H'=>u r σ' H' Q
theorem Ji:PGs X [] gNil:=by
 intro _ s σ H _ _ Q I r h;obtain⟨e,h⟩:=h;subst e;cases r;exact assignInOrder_nil ⟨σ,H,I,h⟩
theorem ZP{e}{es:List _}{t}{u}(h1:PG X e t)(h2:PGs X es u)
  (hs:(assignEach (e::es) X.env).map (·.2)=assign e X.env::(assignEach es X.env).map (·.2):=by rfl):PGs X (e::es) (ZmB t u):=by
 intro a s σ H _ _ Q I r h;obtain⟨v,_,c,h⟩:=h;subst c;cases r with
 |cons r i=>
  rw[hs];exact assignInOrder_cons (thn (h1 a s σ H _ _ _ I r h) fun _ b⟨_,f,d,g⟩=>h2 _ b _ f _ _ Q d i g)
def ZmA(K:PySem.W.Frag)(n:Nat)(t:TGs):TG:=fun v σ H Q=>∃a xs,v= .ref a/\SqT K H a xs/\xs.length=n/\t xs σ H Q
theorem ZaC{es:List _}{k}{t}{n}(hc:X.calm=true)(h:PGs X es t)
  (hn:(assignEach es X.env).length=n:=by rfl)(hst:(assignEach es X.env).findIdx? (·.1)=none:=by rfl):PG X (.Tuple es k pos) (ZmA X.K n t):=by
 intro _ s σ H v u Q I r c;obtain⟨a,l,i,f,g,c⟩:=c;subst i;cases r;obtain⟨_,d,j,_⟩:=I.tuple f;exact assign_Tuple_tuple (I.ok.hd hc) j (by simp[hn,<-g,d.length]) hst fun _ m=>h _ _ σ H l _ Q (I.kept fun b o e=>m b o (Qo (Qh e)) e) (by simpa using d) c
def Zob(to ti:TE)(t:Zla):TG:=fun v σ H Q=>to σ H fun o H1=>ti σ H1 fun i H2=>t o i v H2 fun H3=>Q σ H3
theorem JV{o i}{to ti}{t}(ho:PE X o to)(hi:PE X i ti)(hs:Zjn X t)
  (ha:∀v,assign (.Subscript o i pos) X.env v=(do
   let ov<-holding [v] (eval o X.env)
   let iv<-holding [v,ov] (eval i X.env)
   standAt pos
   holding [v,ov,iv] (setItem ov iv v)
   release [v,ov,iv] []):=by intro _;rfl):PG X (.Subscript o i pos) (Zob to ti t):=fun a s σ H v u Q I r h=>Qa (Q5 (thn (ho a s σ H _ I h) fun ov p⟨x,b,g,e,l⟩=>(Qa (Q5 (thn (hi a p σ b _ g l) fun iv j⟨y,n,d,c,q⟩=>(Qa (wpAny_standAt (Qa (Q5 (thn (hs a j σ n x y v ov iv u _ d e c r q) fun _ _⟨m,f,k⟩=>(wpAny_release ⟨σ,m,f,k⟩)))))))))))
def Zg8(te:TE)(g:TG):TS:=fun D σ H=>te σ H fun x H1=>g x σ H1 D.nx
theorem JU{tg e}{te}{g}(he:PE X e te)(hg:PG X tg g)(hs:swapsWithSole [tg] e pos.line X.env=pure false:=by rfl)(hw:swappedStores [tg] e X.env=pure none:=by rfl)
  (h1:(assignEach [tg] X.env).map (·.2)=[assign tg X.env]:=by rfl):PS X (.Assign [tg] e pos) (Zg8 te g):=by
 refine fun a s σ H D I h=>wpAny_Assign_stores (thn (he a s σ H _ I h) fun v c xq1=>?_) hs hw;obtain⟨x,f,i,b,d⟩:=xq1;rw[h1];exact thn (hg a c σ f x v _ i b d) fun _ _ q=>q
theorem Zl{i}{x}{e}{te}{pos'}(hN:X.N.Nodup)(hi:X.N[i]?=some x)(hx:Loc X.env.scope x)(he:PE X e te)(hs:swapsWith e (some (.Name x pos')) pos.line X.env=pure false:=by rfl)(hf:X.fn x=true\/X.env.scope.names.lookup x=some .local:=by first|exact .inl rfl|exact .inr rfl|assumption):
  PS X (.Assign [.Name x pos'] e pos) (Zg8 te (ZaZ i)):=fun a s σ H D I h=>wpAny_Assign_Name (thn (he a s σ H _ I h) fun v _⟨y,g,b,d,f⟩=>(Zak b hN hi hx d (fun _ c=>⟨_,g,c,f⟩) hf)) hs
def Znq(i:Nat)(te:TE)(ti:TIp):TS:=fun D σ H=>∃x,σ[i]?=some (some x)/\te σ H fun y H1=>ti x y H1 fun z H2=>D.nx (σ.set i (some z)) H2
theorem Zkg{i}{x}{e}{te}{op}{ti}{pos'}(hN:X.N.Nodup)(hi:X.N[i]?=some x)(hx:Loc X.env.scope x)(he:PE X e te)(ho:PIp X op ti)(hf:X.fn x=true\/X.env.scope.names.lookup x=some .local:=by first|exact .inl rfl|exact .inr rfl|assumption):
  PS X (.AugAssign (.Name x pos') op e pos) (Znq i te ti):=by
 intro a s σ H D I h;obtain⟨v,M,h⟩:=h;obtain⟨m,F,K⟩:=I.loc;obtain⟨u,r,l⟩:=K i x v hi M (show Vis _ x by rcases hx with k|k;exact .inl k;exact .inr (.inl k));refine wpAny_AugAssign_Name ?_;have f:wpAny (model X.prog X.w) X.A (eval e X.env) (fun w g=>wpAny (model X.prog X.w) X.A (inplaceOp op u w) (fun r p=>wpAny (model X.prog X.w) X.A (storeName X.env x r) (fun _=>SP X a D .next) X.xe p) X.xe g) X.xe s:=thn (he a s σ H _ I h) fun w C⟨y,j,t,G,n⟩=>thn (ho a C σ j v y u w _ t r G n) fun z _⟨_,O,E,L,q⟩=>Zak E hN hi hx L (fun _ J=>⟨_,O,J,q⟩) hf;rcases l with⟨b,B⟩|⟨b,c,o,d⟩
 ·exact wpAny_loadName_local I.ok.kind b F B f
 ·rcases b with b|b
  ·exact wpAny_loadName_cell I.ok.kind b o d f
  ·rcases hx with k|k
   ·have:X.env.scope.names.lookup x=some _:=b
    simp_all
   ·have:X.env.scope.names.lookup x=some _:=b
    simp_all
def Zlq(to ti te:TE)(tget:V->V->Hp->VK->Prop)(tip:TIp)(tset:Zla):TS:=fun D σ H=>to σ H fun o H1=>ti σ H1 fun i H2=>tget o i H2 fun x H3=>te σ H3 fun y H4=>tip x y H4 fun z H5=>tset o i z H5 fun H6=>D.nx σ H6
def Zna(X:Cx)(t:V->V->Hp->VK->Prop):Prop:=
 ∀(pins)(s)(σ:St)(H)(o i)(ov iv)(Q),Inv X pins σ H s->RelV o ov->RelV i iv->t o i H Q->
  wpAny (model X.prog X.w) X.A (getItem ov iv) (EP X pins σ Q) X.xe s
theorem Zi0{o i e}{to ti te}{tget:V->V->Hp->VK->Prop}{tip}{tset}{op}{tpos}(ho:PE X o to)(hi:PE X i ti)(hg:Zna X tget)(he:PE X e te)(hp:PIp X op tip)(hs:Zjn X tset)
  (ha:∀ov iv new,augStore i ov iv new=(do holding [new,ov,iv] (setItem ov iv new);release [new,ov,iv] [];pure .next):=by intros;rfl):PS X (.AugAssign (.Subscript o i tpos) op e pos) (Zlq to ti te tget tip tset):=fun a s σ H D I h=>wpAny_AugAssign_SubscriptAny (thn (ho a s σ H _ I h) fun ov y⟨c,q,C,f,r⟩=>(thn (hi a y σ q _ C r) fun iv N⟨d,P,Q,g,x⟩=>thn (hg a N σ P c d ov iv _ Q f g x) fun b z⟨F,t,L,R,O⟩=>thn (he a z σ t _ L O) fun v u⟨A,J,E,l,G⟩=>thn (hp a u σ J F A b v _ E R l G) fun new n⟨p,B,w,M,m⟩=>(thn (hs a n σ B c d p ov iv new _ w f g M m) fun _ _⟨k,K,j⟩=>⟨σ,k,K,j⟩))) ha
inductive ipI(f:Int->Int->Int)(x:V)(y:V)(H:Hp)(Q:VK):Prop
 |mk (i j:_) (_:x= .int i) (_:y= .int j) (_:Q (.int (f i j)) H)
theorem Zhr:PIp X .Add (ipI fun i j=>i+j):=by
 intro _ s σ H x y v u Q I d a h;obtain⟨i,j,c,b,q⟩:=h;subst c;subst b;obtain⟨t,rfl⟩:=d;obtain⟨_,rfl⟩:=a;exact iadd_int ⟨.int _,H,I.tok _,⟨_,rfl⟩,q⟩
def ZjD(c:TT)(tb:TS):TS:=fun D σ H=>∃W:Nat->St->Hp->Prop,(∃m,W m σ H)/\∀m σ H,W m σ H->
 c σ H fun b H1=>if b=true then∃N,(∀σ' H',N σ' H'->∃m',m'<m/\W m' σ' H')/\tb {D with nx:=N,ct:=N,bk:=D.nx} σ H1 else D.nx σ H1
theorem J6{c}{body}{tc}{tb}(hp:PassesOwn (model X.prog X.w) X.A X.env X.xe)(hc:PT X c tc)(hb:PSs X body tb):PS X (.While c body [] pos) (ZjD tc tb):=by
 intro a s σ H D I h;obtain⟨W,⟨z,K⟩,e⟩:=h;refine wpAny_While (codeAny_whileLoop (fun n J=>∃u x,Inv X _ u x J/\W n u x) ?_ z ⟨σ,H,I,K⟩);rintro n G ⟨i,t,F,E⟩;refine UX hp (thn (hc a G i t _ F (e n i t E)) fun b C xq1=>?_);obtain⟨y,r,g⟩:=xq1;cases b with
 |true=>
  obtain⟨N,q,g⟩:=g;refine UX hp (thn (hb a C i y _ r g) fun f _ j=>?_);cases f with
  |next=>
   obtain⟨B,d,l,p⟩:=j;obtain⟨o,k,m⟩:=q _ d p;exact⟨o,k,_,d,l,m⟩
  |cont=>
   obtain⟨B,d,l,p⟩:=j;obtain⟨o,k,m⟩:=q _ d p;exact⟨o,k,_,d,l,m⟩
  |brk=>exact j
  |ret v=>exact j
 |_=>
  exact wpAny_execs_nil ⟨i,y,r,g⟩
end
structure It where
 go:Nat->Hp->Prop
 yld:Nat->Hp->V->Hp->Prop
 stop:Nat->Hp->Prop
def Zai(X:Cx)(pins:List (Addr×Obj))(H:Hp)(b:Addr):Prop:=
 H b=none/\b≠X.env.locals/\b ∉ X.fs/\(b∈X.ex\/X.s₀.heap.objs.size<=b)/\(∀x c,X.env.cells.lookup x=some c->c≠b)/\∀p∈X.pn++pins,p.1≠b
theorem Inv.fpOk{X}{pins}{σ:St}{H H'}{s:Shared}{b:Addr}(I:Inv X pins σ H s)(hb:s.heap.objs.size<=b)(hn:H' b=none):Zai X pins H' b:=by
 refine⟨hn,Uo (Qs I.lt hb),I.nofs hb,.inr (QM I.sz hb),fun x c e z=>?_,fun p a z=>?_⟩
 ·obtain⟨v,q⟩:=I.cell x c e
  exact absurd (Qs q.lt (by rw[z];exact hb)) (QU _)
 ·exact absurd (Qs (Qh (I.pin p a).1) (by rw[z];exact hb)) (QU _)
structure Turn(P:Program)(w:World)(K:PySem.W.Frag)(tg:Expr)(J:It)(fp:List Addr)(it:Addr)(tn:Nat->Heap->Prop):Prop where
 mem:it∈fp
 obj:∀i h,tn i h->∀b∈fp,∃o,h.get? b=some o/\∀v,o.data≠.cell v
 keep:∀i h h',tn i h->(∀b∈fp,∀o,h.get? b=some o->h'.get? b=some o)->tn i h'
 item:∀(X:Cx),X.prog=P->X.w=w->X.K=K->X.calm=true->∀(i:Nat)(pins:List (Addr×Obj))(s:Shared)(σ:St)(H:Hp)(E:Value->Shared->Prop),Inv X pins σ H s->(∀b∈fp,Zai X pins H b)->tn i s.heap->J.go i H->
  wpAny (model P w) X.A (pyNext (.ref it)) (fun r s1=>∃u,r=some u/\
   wpAny (model P w) X.A (letOwnedTupleGo tg (.ref it) u) (fun _ s2=>∃x H',Inv X pins σ H' s2/\RelV x u/\J.yld i H x H'/\tn (i+1) s2.heap/\∀b∈fp,H' b=none) E s1) E s
 done:∀(X:Cx),X.prog=P->X.w=w->X.K=K->X.calm=true->∀(i:Nat)(pins:List (Addr×Obj))(s:Shared)(σ:St)(H:Hp)(E:Value->Shared->Prop),Inv X pins σ H s->(∀b∈fp,Zai X pins H b)->tn i s.heap->J.stop i H->
  wpAny (model P w) X.A (pyNext (.ref it)) (fun r s1=>r=none/\Inv X pins σ H s1) E s
 self:∀(A:Around)(i:Nat)(s:Shared)(Q:Value->Shared->Prop)(E:Value->Shared->Prop),tn i s.heap->Q (.ref it) s->wpAny (model P w) A (pyIter (.ref it)) Q E s
abbrev TI:=St->Hp->(It->Hp->Prop)->Prop
def PIE(X:Cx)(pins:List (Addr×Obj))(σ:St)(tg:Expr)(R:It->Hp->Prop)(itv:Value)(s2:Shared):Prop:=
 ∃it fp tn J H',itv= .ref it/\Inv X pins σ H' s2/\Turn X.prog X.w X.K tg J fp it tn/\tn 0 s2.heap/\(∀b∈fp,Zai X pins H' b)/\R J H'
def PI(X:Cx)(tg iter:Expr)(wi:TI):Prop:=
 ∀(pins)(s)(σ:St)(H)(R),Inv X pins σ H s->wi σ H R->
  wpAny (model X.prog X.w) X.A (eval iter X.env) (fun v s1=>wpAny (model X.prog X.w) X.A (pyIter v) (PIE X pins σ tg R) X.xe s1) X.xe s
theorem Zh1{M}{A}{E}{s}{tg}{it}{u}{o}{n}{vs}{Q:Unit->Shared->Prop}(ho:s.heap.get? it=some o)(hc:o.cls= .type n)(hd:o.data= .fields vs)
  (hn:["enumerate","zip","dict_itemiterator","dict_reverseitemiterator","odict_iterator","itertools.zip_longest","itertools.pairwise"].contains n=false)(hQ:Q () s):wpAny M A (letOwnedTupleGo tg (.ref it) u) Q E s:=by
 cases tg<;>first
  |exact Qg hQ
  |(cases u<;>first
    |exact Qg hQ
    |(refine Qa (wpAny_load ho ?_)
      rw[hc,hd];show wpAny M A (if(["enumerate","zip","dict_itemiterator","dict_reverseitemiterator","odict_iterator","itertools.zip_longest","itertools.pairwise"].contains n&&vs[0]?==some _)=_ then _ else _) Q E s;rw[if_neg (by grind)];exact Qg hQ))
def Itl(K:PySem.W.Frag)(a:Addr):It:=
 ⟨fun i H=>∃xs x,SqL K H a xs/\xs[i]?=some x,fun i H x H'=>H'=H/\∀xs,SqL K H a xs->xs[i]?=some x,fun i H=>∃xs,SqL K H a xs/\xs.length<=i⟩
def Itt(K:PySem.W.Frag)(a:Addr):It:=
 ⟨fun i H=>∃xs x,SqT K H a xs/\xs[i]?=some x,fun i H x H'=>H'=H/\∀xs,SqT K H a xs->xs[i]?=some x,fun i H=>∃xs,SqT K H a xs/\xs.length<=i⟩
def Itr(lo:Int)(n:Nat):It:=⟨fun i _=>i<n,fun i H x H'=>H'=H/\x= .int (lo+i),fun i _=>n<=i⟩
theorem ZfD{P}{w}{K}{tg}(a it):Turn P w K tg (Itl K a) [it] it (fun i h=>h.IsListIter it a i)where
 mem:=by simp
 obj:=fun i h st b f=>by
  have e:b=it:=by simpa using f
  subst e;obtain⟨o,e,c,d⟩:=st
  simp_all
 keep:=fun i h G st k=>st.at fun o e=>k it (by simp) o e
 item:=by
  intro X A B z J i j s σ H E I m st D;subst A B z;obtain⟨S,x,l,t⟩:=D;obtain⟨y,r,p,T⟩:=I.list l;obtain⟨u,M,R⟩:=r.get t;obtain⟨C,n,N,v,F,q⟩:=m it (by simp);refine wpAny_pyNext_list_item st p.isList (by simpa using M) fun G g L=>?_;obtain⟨o,e,c,d⟩:=id g;exact⟨u,rfl,Zh1 e c d (by decide) ⟨x,H,(I.turned (fun b o f e=>(L.2 b f).trans e) C n v F q),R,⟨rfl,fun _ O=>by rw[I.list_inj O l];exact t⟩,g,fun b f=>(m b f).1⟩⟩
 done:=by
  intro X A B z J i j s σ H E I m st D;subst A B z;obtain⟨S,l,t⟩:=D;obtain⟨y,r,p,T⟩:=I.list l;obtain⟨C,n,N,v,F,q⟩:=m it (by simp);have _:=r.length;exact wpAny_pyNext_list_end (I.ok.hd J) st p.isList (by simp;omega) fun G Q=>⟨rfl,I.turned (fun b o f e=>Q b o f e) C n v F q⟩
 self:=fun _ _ _ _ _ st h=>wpAny_pyIter_listiter st h
theorem Zeb{P}{w}{K}{tg}(a it):Turn P w K tg (Itt K a) [it] it (fun i h=>h.IsTupleIter it a i)where
 mem:=by simp
 obj:=fun i h st b f=>by
  have e:b=it:=by simpa using f
  subst e;obtain⟨o,e,c,d⟩:=st
  grind
 keep:=fun i h G st k=>st.at fun o e=>k it (by simp) o e
 item:=by
  intro X A B z J i j s σ H E I m st D;subst A B z;obtain⟨S,x,l,t⟩:=D;obtain⟨y,r,p,T⟩:=I.tuple l;obtain⟨u,M,R⟩:=r.get t;obtain⟨C,n,N,v,F,q⟩:=m it (by simp);refine wpAny_pyNext_tuple_item st p (by simpa using M) fun G g L=>?_;obtain⟨o,e,c,d⟩:=id g;exact⟨u,rfl,Zh1 e c d (by decide) ⟨x,H,(I.turned (fun b o f e=>(L.2 b f).trans e) C n v F q),R,⟨rfl,fun _ O=>by rw[I.tuple_inj O l];exact t⟩,g,fun b f=>(m b f).1⟩⟩
 done:=by
  intro X A B z J i j s σ H E I m st D;subst A B z;obtain⟨S,l,t⟩:=D;obtain⟨y,r,p,T⟩:=I.tuple l;obtain⟨C,n,N,v,F,q⟩:=m it (by simp);have _:=r.length;exact wpAny_pyNext_tuple_end (I.ok.hd J) st p (by simp;omega) fun G Q=>⟨rfl,I.turned (fun b o f e=>Q b o f e) C n v F q⟩
 self:=fun _ _ _ _ _ st h=>wpAny_pyIter_tupleiter st h
theorem Zec{P}{w}{K}{tg}(it)(lo)(n):Turn P w K tg (Itr lo n) [it] it (fun i h=>IsRangeIter h it (lo+i*1) (n-i) 1)where
 mem:=by simp
 obj:=fun i h st b a=>by
  simp_all
 keep:=fun i h A st k=>k it (by simp) _ st
 item:=by
  intro X u m l x i d s σ H E I g st y;subst u m l;obtain⟨r,q,D,p,z,j⟩:=g it (by simp);refine(Walks.range (I.ok.hd x) it lo 1 n).item i s _ _ y st fun v A _ B c F=>?_;obtain⟨t,rfl⟩:=B;refine⟨_,rfl,Zh1 c rfl rfl (by decide) ⟨.int (lo+i),H,(show Inv X _ σ H _ from I.turned (fun b o a e=>F b o (by simpa using a) e) r q p z j),⟨t,?_⟩,⟨rfl,rfl⟩,c,fun b a=>(g b a).1⟩⟩;rw[Int.mul_one]
 done:=by
  intro X u m l x i d s σ H E I g st y;subst u m l;obtain⟨r,q,D,p,z,j⟩:=g it (by simp);exact wpAny_pyNext_range_end (I.ok.hd x) st (by have:n<=i:=y;omega) fun A C=>⟨rfl,I.turned (fun b o a e=>C b o a e) r q p z j⟩
 self:=fun _ _ _ _ _ st h=>wpAny_pyIter_rangeiter st h
section
variable{X:Cx}{tg:Expr}
def Zj3(K:PySem.W.Frag)(tl:TE):TI:=fun σ H R=>tl σ H fun x H1=>∃a,x= .ref a/\(∃xs,SqL K H1 a xs)/\R (Itl K a) H1
def Zm7(K:PySem.W.Frag)(tl:TE):TI:=fun σ H R=>tl σ H fun x H1=>∃a,x= .ref a/\(∃xs,SqT K H1 a xs)/\R (Itt K a) H1
theorem JI{l}{tl}(hl:PE X l tl):PI X tg l (Zj3 X.K tl):=by
 refine fun c s σ H R I h=>thn (hl c s σ H _ I h) fun v k xq1=>?_;obtain⟨x,i,d,j,g⟩:=xq1;obtain⟨a,e,⟨_,m⟩,q⟩:=g;subst e;cases j;obtain⟨_,_,p,_⟩:=d.list m;refine UN p.isList ⟨_,_,_,_,i,rfl,d.kept fun b o e=>Qc _ e,ZfD a _,⟨_,Ql _ rfl,rfl,rfl⟩,fun b f=>?_,q⟩;have e:b=k.heap.objs.size:=by simpa using f
 subst e;exact d.fpOk (Qe _) (d.hok.fresh (Qe _))
theorem Y8{l}{tl}(hl:PE X l tl):PI X tg l (Zm7 X.K tl):=by
 refine fun c s σ H R I h=>thn (hl c s σ H _ I h) fun v k xq1=>?_;obtain⟨x,i,d,j,g⟩:=xq1;obtain⟨a,e,⟨_,m⟩,q⟩:=g;subst e;cases j;obtain⟨_,_,p,_⟩:=d.tuple m;refine UB p ⟨_,_,_,_,i,rfl,d.kept fun b o e=>Qc _ e,Zeb a _,⟨_,Ql _ rfl,rfl,rfl⟩,fun b f=>?_,q⟩;have e:b=k.heap.objs.size:=by simpa using f
 subst e;exact d.fpOk (Qe _) (d.hok.fresh (Qe _))
theorem ZgL{pins}{σ:St}{H}{s}{R}{E}{lo hi}{t u v}{tk}(I:Inv X pins σ H s)(h1: -(2^62)<=lo)(h2:lo<2^62)(h3: -(2^62)<=hi)(h4:hi<2^62)
  (q:R (Itr lo (hi-lo).toNat) H):wpAny (model X.prog X.w) X.A (pyIter (.ref s.heap.objs.size)) (PIE X pins σ tg R) E {s with heap:=s.heap.push {cls:= .type "range",data:= .fields #[.int lo t,.int hi u,.int 1 v]},toks:=tk}:=by
 refine wpAny_pyIter_range (IsRange.new ..) (small_one h1 h2 h3 h4) ?_;have a:Inv X _ σ H {s with heap:=s.heap.push {cls:= .type "range",data:= .fields #[.int lo t,.int hi u,.int 1 v]},toks:=tk}:=I.kept fun b o e=>Qc _ e;refine⟨_,_,_,_,H,rfl,
  a.kept fun b o e=>Qc _ e,Zec _ lo (hi-lo).toNat,?_,fun b c=>?_,q⟩
 ·rw[(show lo+((0:Nat):Int)*1=lo by simp),(show(((hi-lo).toNat:Nat):Int)-((0:Nat):Int)=Builtin.Range.rangeSize lo hi 1 by rw[rangeSize_one];split<;>omega)]
  exact Ql _ rfl
 ·have e:b=(s.heap.push {cls:= .type "range",data:= .fields #[.int lo t,.int hi u,.int 1 v]}).objs.size:=by simpa using c
  subst e;exact a.fpOk (Qe _) (a.hok.fresh (Qe _))
def Zhv(ta:TA):TI:=fun σ H R=>ta σ H fun vs H1=>∃j,vs=[.int j]/\ -(2^62)<=j/\j<2^62/\R (Itr 0 j.toNat) H1
theorem ZZ{a}{ta}{p pos}(hg:Gl X "range")(hm:X.mg "range"=none)(ha:PA X [a] ta)(hs:starEach [a] X.env=[(false,eval a X.env)]:=by rfl):PI X tg (.Call (.Name "range" p) [a] [] pos) (Zhv ta):=by
 refine fun b s σ H R I h=>Call_ (Jq I hg hm boot_range (UT (thn (ha pos b s σ H _ I h) fun _ _ xq1=>?_) hs rfl));obtain⟨_,_,d,i,c⟩:=xq1;obtain⟨j,e,c,f,q⟩:=c;subst e;cases i with
 |cons r g=>
  cases g
  obtain⟨t,rfl⟩:=r;exact call_range_1 (ZgL d (by simp) (by simp) c f (by simpa using q))
def Zlm(wi:TI)(g:TG)(tb:TS):TS:=fun D σ H=>wi σ H fun J H1=>∃W:Nat->Nat->St->Hp->Prop,(∃m,W 0 m σ H1)/\∀i m σ H,W i m σ H->
 (J.stop i H/\D.nx σ H)\/(J.go i H/\∃N,(∀σ' H',N σ' H'->∃m',m'<m/\W (i+1) m' σ' H')/\∀x H',J.yld i H x H'->g x σ H' fun σ2 H2=>tb {D with nx:=N,ct:=N,bk:=D.nx} σ2 H2)
def YG(fp:List Addr)(h:Heap):List (Addr×Obj):=fp.filterMap fun b=>(h.get? b).map fun o=>(b,o)
theorem Y0{fp}{h}{b}{o}(hb:b∈fp)(e:h.get? b=some o):(b,o)∈YG fp h:=U9.mpr ⟨b,hb,by rw[e];rfl⟩
theorem ZaF{fp}{h}{p}(hp:p∈YG fp h):p.1∈fp/\h.get? p.1=some p.2:=by
 obtain⟨b,_,e⟩:=U9.mp hp;cases q:h.get? b with
 |none=>simp_all
 |some o=>
  grind
theorem Inv.pinned{pins}{σ:St}{H}{s}{fp}(I:Inv X pins σ H s)(hf:∀b∈fp,Zai X pins H b) (ho:∀b∈fp,∃o,s.heap.get? b=some o/\∀v,o.data≠.cell v):Inv X (pins++YG fp s.heap) σ H s:=
 I.pins_of fun p a=>(Qw.mp a).elim (fun z=>I.pin p (Qm _ z)) fun z=>by
  obtain⟨c,e⟩:=ZaF z;obtain⟨_,_,_,_⟩:=hf _ c
  grind
theorem Inv.unpinned{pins pl}{σ:St}{H}{s}(I:Inv X (pins++pl) σ H s):Inv X pins σ H s:=I.pins_of fun p a=>I.pin p (Qm _ (Qz _ a))
theorem ZG{iter}{body}{wi}{g}{tb}{pos}(hp:PassesOwn (model X.prog X.w) X.A X.env X.xe)(hc:X.calm=true)(hi:PI X tg iter wi)(hg:PG X tg g)(hb:PSs X body tb)
  (hs:∀x,foldedSetIterable iter X.env x=pure x:=by intro _;rfl):PS X (.For tg iter body [] pos) (Zlm wi g tb):=by
 refine fun a s σ H D I h=>wpAny_For (thn (hi a s σ H _ I h) fun v s1 h1=>thn h1 fun itv s2 h2=>?_) hs;obtain⟨it,K,tn,J,H2,e,I2,T,Q,V,W,⟨m0,w0⟩,G⟩:=h2;subst e;have c:∀{l},(∀b∈K,l b=none)->∀b∈K,Zai X _ l b:=fun hn b hb=>⟨hn b hb,(V b hb).2⟩;refine codeAny_forLoop_any (fun n s'=>∃i B l,Inv X _ B l s'/\tn i s'.heap/\(∀b∈K,l b=none)/\W i n B l) ?_ m0 ⟨0,σ,H2,I2,Q,fun b hb=>(V b hb).1,w0⟩;rintro n R ⟨i,L,M,S,C,z,w3⟩;rcases G i n _ M w3 with⟨F,qn⟩|⟨go,N,hN,step⟩
 ·refine UX hp (thn (T.done X rfl rfl rfl hc i a R L M X.xe S (c z) C F) fun r s4 xq1=>?_)
  obtain⟨P,I4⟩:=xq1;subst P;exact wpAny_execs_nil ⟨L,M,I4,qn⟩
 ·refine UX hp (thn (T.item X rfl rfl rfl hc i a R L M X.xe S (c z) C go) fun r s4 xq1=>?_)
  obtain⟨u,P,h4⟩:=xq1;subst P;refine UX hp (thn h4 fun _ s5⟨x,Y,I5,r5,y5,y,O⟩=>UX hp (thn (hg _ s5 L Y x u _ (I5.pinned (c O) (T.obj _ _ y)) r5 (step x Y y5)) fun _ s6⟨σ6,H6,I6,q6⟩=>(UX hp (thn (hb _ s6 σ6 H6 _ I6 q6) fun f U p=>?_))));have again:∀{q}{j},Inv X _ _ j U->N _ j->∃m,m<n/\∃i B l,Inv X a B l U/\tn i _/\(∀b∈K,l b=none)/\W i m B l:=fun{q j} k E=>by
   obtain⟨m',hm,w7⟩:=hN _ j E;refine⟨m',hm,i+1,q,j,k.unpinned,T.keep _ _ _ y fun b hb o e=>(k.pin (b,o) (Qm _ (Qm _ (Y0 hb e)))).1,fun b hb=>?_,w7⟩;obtain⟨o,e,d⟩:=T.obj _ _ y b hb;exact(k.pin (b,o) (Qm _ (Qm _ (Y0 hb e)))).2.1
  cases f with
  |next=>obtain⟨q,j,k,E⟩:=p;exact again k E
  |cont=>obtain⟨q,j,k,E⟩:=p;exact again k E
  |brk=>obtain⟨q,j,k,p⟩:=p;exact⟨q,j,k.unpinned,p⟩
  |ret v=>obtain⟨x7,q,j,k,r7,p⟩:=p;exact⟨x7,q,j,k.unpinned,r7,p⟩
end
theorem Za0{K}{a}{xs}{g:TG}{tb:TS}{D:Ends}{σ:St}{H:Hp}(Pv:Nat->St->Hp->Prop)(h0:Pv 0 σ H)(hl:∀i σ H,i<=xs.length->Pv i σ H->SqL K H a xs)
  (hs:∀i x σ H,xs[i]?=some x->Pv i σ H->g x σ H fun σ2 H2=>tb {D with nx:=Pv (i+1),ct:=Pv (i+1),bk:=D.nx} σ2 H2) (hd:∀σ H,Pv xs.length σ H->D.nx σ H):
  ∃W:Nat->Nat->St->Hp->Prop,(∃m,W 0 m σ H)/\∀i m σ H,W i m σ H->
   ((Itl K a).stop i H/\D.nx σ H)\/((Itl K a).go i H/\∃N:St->Hp->Prop,(∀σ' H',N σ' H'->∃m',m'<m/\W (i+1) m' σ' H')/\∀x H',(Itl K a).yld i H x H'->g x σ H' fun σ2 H2=>tb {D with nx:=N,ct:=N,bk:=D.nx} σ2 H2):=by
 refine⟨fun i m σ H=>m=xs.length-i/\i<=xs.length/\Pv i σ H,⟨xs.length,by simp,QE _,h0⟩,?_⟩;rintro i m σ H ⟨rfl,c,p⟩;have q:=hl i σ H c p;by_cases b:i<xs.length
 ·refine .inr ⟨⟨xs,xs[i],q,by simp[b]⟩,_,fun σ' H' d=>⟨_,by omega,rfl,b,d⟩,fun x H' y=>?_⟩
  obtain⟨e,y⟩:=y
  grind
 ·have e:i=xs.length:=by omega
  subst e;exact .inl ⟨⟨xs,q,Qe _⟩,hd σ H p⟩
theorem Y5{K:PySem.W.Frag}{a:Addr}{xs:List V}{g:TG}{tb:TS}{D:Ends}{σ:St}{H:Hp}(Pv:Nat->St->Hp->Prop)(h0:Pv 0 σ H)(hl:∀i σ H,i<=xs.length->Pv i σ H->SqT K H a xs)
  (hs:∀i x σ H,xs[i]?=some x->Pv i σ H->g x σ H fun σ2 H2=>tb {D with nx:=Pv (i+1),ct:=Pv (i+1),bk:=D.nx} σ2 H2) (hd:∀σ H,Pv xs.length σ H->D.nx σ H):
  ∃W:Nat->Nat->St->Hp->Prop,(∃m,W 0 m σ H)/\∀i m σ H,W i m σ H->
   ((Itt K a).stop i H/\D.nx σ H)\/((Itt K a).go i H/\∃N:St->Hp->Prop,(∀σ' H',N σ' H'->∃m',m'<m/\W (i+1) m' σ' H')/\∀x H',(Itt K a).yld i H x H'->g x σ H' fun σ2 H2=>tb {D with nx:=N,ct:=N,bk:=D.nx} σ2 H2):=by
 refine⟨fun i m σ H=>m=xs.length-i/\i<=xs.length/\Pv i σ H,⟨xs.length,by simp,QE _,h0⟩,?_⟩;rintro i m σ H ⟨rfl,c,p⟩;have q:=hl i σ H c p;by_cases b:i<xs.length
 ·refine .inr ⟨⟨xs,xs[i],q,by simp[b]⟩,_,fun σ' H' d=>⟨_,by omega,rfl,b,d⟩,fun x H' y=>?_⟩
  obtain⟨e,y⟩:=y
  grind
 ·have e:i=xs.length:=by omega
  subst e;exact .inl ⟨⟨xs,q,Qe _⟩,hd σ H p⟩
theorem Y1{lo}{n}{g:TG}{tb:TS}{D:Ends}{σ:St}{H:Hp}(Pv:Nat->St->Hp->Prop)(h0:Pv 0 σ H)
  (hs:∀i σ H,i<n->Pv i σ H->g (.int (lo+i)) σ H fun σ2 H2=>tb {D with nx:=Pv (i+1),ct:=Pv (i+1),bk:=D.nx} σ2 H2) (hd:∀σ H,Pv n σ H->D.nx σ H):
  ∃W:Nat->Nat->St->Hp->Prop,(∃m,W 0 m σ H)/\∀i m σ H,W i m σ H->
   ((Itr lo n).stop i H/\D.nx σ H)\/((Itr lo n).go i H/\∃N:St->Hp->Prop,(∀σ' H',N σ' H'->∃m',m'<m/\W (i+1) m' σ' H')/\∀x H',(Itr lo n).yld i H x H'->g x σ H' fun σ2 H2=>tb {D with nx:=N,ct:=N,bk:=D.nx} σ2 H2):=by
 refine⟨fun i m σ H=>m=n-i/\i<=n/\Pv i σ H,⟨n,by simp,QE _,h0⟩,?_⟩;rintro i m σ H ⟨rfl,_,p⟩;by_cases a:i<n
 ·refine .inr ⟨a,_,fun σ' H' b=>⟨_,by omega,rfl,a,b⟩,fun x H' y=>?_⟩
  obtain⟨e,y⟩:=y
  simp_all
 ·have e:i=n:=by omega
  subst e;exact .inl ⟨Qe _,hd σ H p⟩
abbrev R2:=V->V->Hp->VK->Prop
def OpR(X:Cx)(f:Value->Value->Sem Value)(r:R2):Prop:=
 ∀(pins)(s)(σ:St)(H)(x y)(v u)(Q),Inv X pins σ H s->RelV x v->RelV y u->r x y H Q->
  wpAny (model X.prog X.w) X.A (f v u) (EP X pins σ Q) X.xe s
def UnR(X:Cx)(f:Value->Sem Value)(r:V->Hp->VK->Prop):Prop:=
 ∀(pins)(s)(σ:St)(H)(x)(v)(Q),Inv X pins σ H s->RelV x v->r x H Q->
  wpAny (model X.prog X.w) X.A (f v) (EP X pins σ Q) X.xe s
def CallR(X:Cx)(f:Value)(r:List V->Hp->VK->Prop):Prop:=
 ∀(pins)(s)(σ:St)(H)(xs)(us)(Q),Inv X pins σ H s->Vals xs us->r xs H Q->
  wpAny (model X.prog X.w) X.A (call f us) (EP X pins σ Q) X.xe s
def Zof(X:Cx)(r:V->Hp->(Bool->Hp->Prop)->Prop):Prop:=
 ∀(pins)(s)(σ:St)(H)(x)(v)(Q),Inv X pins σ H s->RelV x v->r x H Q->
  wpAny (model X.prog X.w) X.A (truthy v) (TP X pins σ Q) X.xe s
def tOp(r:R2)(ta tb:TE):TE:=fun σ H Q=>ta σ H fun x H1=>tb σ H1 fun y H2=>r x y H2 Q
def tUn(r:V->Hp->VK->Prop)(ta:TE):TE:=fun σ H Q=>ta σ H fun x H1=>r x H1 Q
inductive rI(C:Int->Int->Prop)(g:Int->Int->V)(x:V)(y:V)(H:Hp)(Q:VK):Prop
 |mk (i j:_) (_:x= .int i) (_:y= .int j) (_:C i j) (_:Q (g i j) H)
inductive rI0(g:Int->Int->V)(x:V)(y:V)(H:Hp)(Q:VK):Prop
 |mk (i j:_) (_:x= .int i) (_:y= .int j) (_:Q (g i j) H)
inductive rU(g:Int->V)(x:V)(H:Hp)(Q:VK):Prop
 |mk (i:_) (_:x= .int i) (_:Q (g i) H)
section
variable{X:Cx}{a b c:Expr}{ta tb tc:TE}{pos:Pos}
theorem ZkV(ha:PE X a ta)(hb:PE X b tb){pins}{s}{σ:St}{H}{R:V->V->Hp->Prop}(I:Inv X pins σ H s)
  (h:ta σ H fun x H1=>tb σ H1 fun y H2=>R x y H2) {Q} {f:Value->Value->Sem Value}
  (hf:∀v u s2 x y H2,Inv X pins σ H2 s2->RelV x v->RelV y u->R x y H2->wpAny (model X.prog X.w) X.A (f v u) Q X.xe s2):
  wpAny (model X.prog X.w) X.A (eval a X.env) (fun v s₁=>wpAny (model X.prog X.w) X.A (eval b X.env) (fun u s₂=>wpAny (model X.prog X.w) X.A (f v u) Q X.xe s₂) X.xe s₁) X.xe s:=thn (ha pins s σ H _ I h) fun v d⟨x,H1,j,i,k⟩=>thn (hb pins d σ H1 _ j k) fun u s2⟨y,H2,g,e,c⟩=>hf v u s2 x y H2 g i e c
theorem Zt{op}{r}(ho:OpR X (binaryOp op) r)(ha:PE X a ta)(hb:PE X b tb):PE X (.BinOp a op b pos) (tOp r ta tb):=fun _ s σ H Q I h=>wpAny_BinOp (ZkV ha hb I h fun v u g x y f e d c q=>ho _ g σ f x y v u Q e d c q)
theorem J7{op}{r}(ho:UnR X (unaryOp op) r)(ha:PE X a ta):PE X (.UnaryOp op a pos) (tUn r ta):=fun b s σ H Q I h=>UnaryOp_ (thn (ha b s σ H _ I h) fun v d⟨x,g,c,f,e⟩=>ho _ d σ g x v Q c f e)
theorem opI{f}{C}{g:Int->Int->Int}
  (rule:∀(i j:Int)(t u:Tok)(s:Shared)(Q:Value->Shared->Prop)(E:Value->Shared->Prop),C i j->Q (.int (g i j) s.toks) {s with toks:=s.toks+1}->wpAny (model X.prog X.w) X.A (f (.int i t) (.int j u)) Q E s):
  OpR X f (rI C fun i j=> .int (g i j)):=by
 intro _ s σ H x y v u Q I d a h;obtain⟨i,j,rfl,rfl,b,q⟩:=h;obtain⟨t,rfl⟩:=d;obtain⟨c,rfl⟩:=a;exact rule i j t c s _ _ b ⟨.int (g i j),H,I.tok _,⟨_,rfl⟩,q⟩
theorem ZlK{f}{g:Int->Int->Int}
  (rule:∀(i j:Int)(t u:Tok)(s:Shared)(Q:Value->Shared->Prop)(E:Value->Shared->Prop),Q (.int (g i j) s.toks) {s with toks:=s.toks+1}->wpAny (model X.prog X.w) X.A (f (.int i t) (.int j u)) Q E s):
  OpR X f (rI0 fun i j=> .int (g i j)):=by
 intro _ s σ H x y v u Q I c a h;obtain⟨i,j,rfl,rfl,q⟩:=h;obtain⟨t,rfl⟩:=c;obtain⟨b,rfl⟩:=a;exact rule i j t b s _ _ ⟨.int (g i j),H,I.tok _,⟨_,rfl⟩,q⟩
theorem ZiA{f}{g:Int->Int->Bool}
  (rule:∀(i j:Int)(t u:Tok)(s:Shared)(Q:Value->Shared->Prop)(E:Value->Shared->Prop),Q (.bool (g i j)) s->wpAny (model X.prog X.w) X.A (f (.int i t) (.int j u)) Q E s):
  OpR X f (rI0 fun i j=> .bl (g i j)):=by
 intro _ s σ H x y v u Q I c a h;obtain⟨i,j,rfl,rfl,q⟩:=h;obtain⟨t,rfl⟩:=c;obtain⟨b,rfl⟩:=a;exact rule i j t b s _ _ ⟨.bl (g i j),H,I,rfl,q⟩
def Zoi(i j:Int):Prop:=0<j/\j<1073741824
def CMul(i j:Int):Prop:=(-(2^64)<i/\i<2^64)\/(-(2^64)<j/\j<2^64)
theorem CMul.ok{i j}(h:CMul i j):IntMulOk i j:=by
 rcases h with⟨b,a⟩|⟨b,a⟩
 ·exact .of_left (intBits_le_64 b a)
 ·exact .of_right (intBits_le_64 b a)
theorem ZS:OpR X (binaryOp .Add) (rI0 fun i j=> .int (i+j)):=ZlK fun _ _ _ _ _ _ _ q=>add_int q
theorem Jk:OpR X (binaryOp .Sub) (rI0 fun i j=> .int (i-j)):=ZlK fun _ _ _ _ _ _ _ q=>sub_int q
theorem Y9:OpR X (binaryOp .Mult) (rI CMul fun i j=> .int (i*j)):=opI fun _ _ _ _ _ _ _ a q=>mul_int q a.ok
theorem Yt:OpR X (binaryOp .FloorDiv) (rI Zoi fun i j=> .int (i/j)):=opI fun i j _ _ _ _ _ a q=>by
 have _:=a.1;have _:=a.2;exact floordiv_int (by omega) (by grind) (.inl (PyProof.noPylong_small (by omega)))
theorem ZN:OpR X (binaryOp .Mod) (rI (fun _ j=>0<j) fun i j=> .int (i%j)):=opI fun i j _ _ _ _ _ _ q=>mod_int' (by omega) (by rw[Int.fmod_eq_emod_of_nonneg i (by omega)];exact q)
theorem unI{f}{g:Int->Int}
  (rule:∀(i:Int)(t:Tok)(s:Shared)(Q:Value->Shared->Prop)(E:Value->Shared->Prop),Q (.int (g i) s.toks) {s with toks:=s.toks+1}->wpAny (model X.prog X.w) X.A (f (.int i t)) Q E s):
  UnR X f (rU fun i=> .int (g i)):=by
 intro _ s σ H x v Q I a h;obtain⟨i,rfl,q⟩:=h;obtain⟨t,rfl⟩:=a;exact rule i t s _ _ ⟨.int (g i),H,I.tok _,⟨_,rfl⟩,q⟩
theorem YE:UnR X (unaryOp .USub) (rU fun i=> .int (-i)):=unI fun _ _ _ _ _ q=>neg_int q
end
def Zlw:V->V->Bool
 | .non,.non=>true| .non,.int _=>true| .int _,.non=>true| .non,.bl _=>true| .bl _,.non=>true| .non,.str _=>true| .str _,.non=>true
 | .int _,.int _=>true| .bl _,.bl _=>true| .str _,.str _=>true| .byt _,.byt _=>true
 | .int _,.str _=>true| .str _,.int _=>true| .bl _,.str _=>true| .str _,.bl _=>true
 |_,_=>false
def rEq:R2:=fun x y H Q=>Zlw x y=true/\Q (.bl (decide (x=y))) H
def rNe:R2:=fun x y H Q=>Zlw x y=true/\Q (.bl (!decide (x=y))) H
theorem Zf2{i j}:decide (V.int i=V.int j)=(i==j):=by
 grind
theorem ZhN{i j}:decide (V.bl i=V.bl j)=(i==j):=by
 grind
theorem Zf1{i j}:decide (V.str i=V.str j)=(i==j):=by
 grind
theorem Zf3{i j}:decide (V.byt i=V.byt j)=(i.toList==j.toList):=by
 rw[Bool.eq_iff_iff]
 simp_all
section
variable{X:Cx}{a b c:Expr}{ta tb tc:TE}{pos:Pos}
theorem Z5{pins}{σ:St}{H}{s}{Q}{k k'}(I:Inv X pins σ H s)(q:Q (.bl k) H)(e:k=k'):EP X pins σ Q (.bool k') s:=by
 subst e;exact⟨.bl k,H,I,rfl,q⟩
theorem ZK:OpR X (compareOp .Eq) rEq:=by
 intro _ s σ H x y v u Q I k b h;obtain⟨g,q⟩:=h;cases x with
 |non=>
  cases k
  cases y with
  |non=>cases b;exact PySem.EqNone.eq_none_none (Z5 I q (by simp))
  |bl j=>cases b;exact PySem.EqNone.eq_none_bool (Z5 I q (by simp))
  |int j=>obtain⟨e,rfl⟩:=b;exact PySem.EqNone.eq_none_int (Z5 I q (by simp))
  |str j=>obtain⟨e,rfl⟩:=b;exact PySem.EqNone.eq_none_str (Z5 I q (by simp))
  |_=>exact absurd g QI
 |bl i=>
  cases k
  cases y with
  |non=>cases b;exact PySem.EqNone.eq_bool_none (Z5 I q (by simp))
  |bl j=>cases b;exact eq_bool (Z5 I q ZhN)
  |str j=>obtain⟨e,rfl⟩:=b;exact PySem.EqMixed.eq_bool_str (Z5 I q (by simp))
  |_=>exact absurd g QI
 |int i=>
  obtain⟨t,rfl⟩:=k;cases y with
  |non=>cases b;exact PySem.EqNone.eq_int_none (Z5 I q (by simp))
  |int j=>obtain⟨e,rfl⟩:=b;exact eq_int (Z5 I q Zf2)
  |str j=>obtain⟨e,rfl⟩:=b;exact PySem.EqMixed.eq_int_str (Z5 I q (by simp))
  |_=>exact absurd g QI
 |str i=>
  obtain⟨t,rfl⟩:=k;cases y with
  |non=>cases b;exact PySem.EqNone.eq_str_none (Z5 I q (by simp))
  |bl j=>cases b;exact PySem.EqMixed.eq_str_bool (Z5 I q (by simp))
  |int j=>obtain⟨e,rfl⟩:=b;exact PySem.EqMixed.eq_str_int (Z5 I q (by simp))
  |str j=>obtain⟨e,rfl⟩:=b;exact eq_str (Z5 I q Zf1)
  |_=>exact absurd g QI
 |byt i=>
  obtain⟨t,rfl⟩:=k;cases y with
  |byt j=>obtain⟨e,rfl⟩:=b;exact PySem.W.eq_bytes (Z5 I q Zf3)
  |_=>exact absurd g QI
 |_=>cases y<;>exact absurd g QI
theorem Zcw:OpR X (compareOp .NotEq) rNe:=by
 intro pins s σ H x y v u Q I l b h;obtain⟨k,q⟩:=h;cases x with
 |non=>
  cases l
  cases y with
  |non=>cases b;exact PySem.EqNone.ne_none_none (Z5 I q (by simp))
  |bl j=>cases b;exact PySem.EqNone.ne_none_bool (Z5 I q (by simp))
  |int j=>obtain⟨e,rfl⟩:=b;exact PySem.EqNone.ne_none_int (Z5 I q (by simp))
  |str j=>obtain⟨e,rfl⟩:=b;exact PySem.EqNone.ne_none_str (Z5 I q (by simp))
  |_=>exact absurd k QI
 |bl i=>
  cases l
  cases y with
  |non=>cases b;exact PySem.EqNone.ne_bool_none (Z5 I q (by simp))
  |bl j=>cases b;exact ne_bool (Z5 I q (UZ not ZhN))
  |str j=>obtain⟨e,rfl⟩:=b;exact PySem.EqMixed.ne_bool_str (Z5 I q (by simp))
  |_=>exact absurd k QI
 |int i=>
  obtain⟨t,rfl⟩:=l;cases y with
  |non=>cases b;exact PySem.EqNone.ne_int_none (Z5 I q (by simp))
  |int j=>obtain⟨e,rfl⟩:=b;exact ne_int (Z5 I q (UZ not Zf2))
  |str j=>obtain⟨e,rfl⟩:=b;exact PySem.EqMixed.ne_int_str (Z5 I q (by simp))
  |_=>exact absurd k QI
 |str i=>
  obtain⟨t,rfl⟩:=l;cases y with
  |non=>cases b;exact PySem.EqNone.ne_str_none (Z5 I q (by simp))
  |bl j=>cases b;exact PySem.EqMixed.ne_str_bool (Z5 I q (by simp))
  |int j=>obtain⟨e,rfl⟩:=b;exact PySem.EqMixed.ne_str_int (Z5 I q (by simp))
  |str j=>obtain⟨e,rfl⟩:=b;exact ne_str (Z5 I q (UZ not Zf1))
  |_=>exact absurd k QI
 |byt i=>
  obtain⟨t,rfl⟩:=l;cases y with
  |byt j=>obtain⟨e,rfl⟩:=b;exact PySem.W.ne_bytes (Z5 I q (UZ not Zf3))
  |_=>exact absurd k QI
 |_=>cases y<;>exact absurd k QI
theorem ZaX:OpR X (compareOp .Lt) (rI0 fun i j=> .bl (decide (i<j))):=ZiA fun _ _ _ _ _ _ _ q=>lt_int q
theorem Zjx:OpR X (compareOp .LtE) (rI0 fun i j=> .bl (decide (i<=j))):=ZiA fun _ _ _ _ _ _ _ q=>le_int q
theorem ZgZ:OpR X (compareOp .Gt) (rI0 fun i j=> .bl (decide (j<i))):=ZiA fun _ _ _ _ _ _ _ q=>gt_int q
theorem ZlJ:OpR X (compareOp .GtE) (rI0 fun i j=> .bl (decide (j<=i))):=ZiA fun _ _ _ _ _ _ _ q=>ge_int q
theorem ZbA:OpR X (compareOp .Is) (fun x y H Q=>y= .non/\Q (.bl (decide (x= .non))) H):=by
 intro _ s σ H x y v u Q I a b h;obtain⟨rfl,q⟩:=h;cases b;refine is_none_gen (Z5 I q ?_);cases x<;>first
  |(cases a;rfl)
  |(obtain⟨t,rfl⟩:=a;rfl)
theorem Zas:OpR X (compareOp .IsNot) (fun x y H Q=>y= .non/\Q (.bl (!decide (x= .non))) H):=by
 intro _ s σ H x y v u Q I a b h;obtain⟨rfl,q⟩:=h;cases b;refine isnot_none_gen (Z5 I q ?_);cases x<;>first
  |(cases a;rfl)
  |(obtain⟨t,rfl⟩:=a;rfl)
theorem Zx(b){op}(h:op≠.In:=by decide)(h2:op≠.NotIn:=by decide):behindInMarks op b=false:=by
 cases b<;>simp[behindInMarks,(show(op==CmpOp.In)=false by grind),(show(op==CmpOp.NotIn)=false by grind)]
theorem Yr{op}{r}(ho:OpR X (compareOp op) r)(ha:PE X a ta)(hb:PE X b tb)(hm:behindInMarks op b=false):PE X (.Compare a [op] [b] pos) (tOp r ta tb):=fun _ s σ H Q I h=>wpAny_Compare1 (ZkV ha hb I h fun v u g x y f e d c q=>ho _ g σ f x y v u Q e d c q) hm
def Zjo(t:TE):TT:=fun σ H Q=>t σ H fun x H'=>∃k,x= .bl k/\Q k H'
theorem Zp{op}{r}(ho:OpR X (compareOp op) r)(ha:PE X a ta)(hb:PE X b tb)(hm:behindInMarks op b=false):PT X (.Compare a [op] [b] pos) (Zjo (tOp r ta tb)):=by
 refine fun d s σ H Q I h=>wpAny_isTrue_Compare1 (thn (ha d s σ H _ I h) fun v o⟨x,f,m,j,p⟩=>thn (hb d o σ f _ m p) fun u n⟨y,A,i,g,B⟩=>
  thn (ho d n σ A x y v u _ i j g B) fun c _ xq1=>?_) hm
 obtain⟨z,q,l,w,k,e,t⟩:=xq1;subst e;cases w;exact Uu ⟨q,l,t⟩
def Zg7(r r':R2)(ta tb tc:TE):TE:=fun σ H Q=>ta σ H fun x H1=>tb σ H1 fun y H2=>r x y H2 fun z H3=>∃k,z= .bl k/\
 (if k=true then tc σ H3 fun w' H4=>r' y w' H4 Q else Q (.bl false) H3)
theorem ZgT{op op'}{r r'}(ho:OpR X (compareOp op) r)(ho':OpR X (compareOp op') r')(ha:PE X a ta)(hb:PE X b tb)(hc:PE X c tc)
  (hm:lastMarks [op,op'] [b,c]=false:=by with_unfolding_all rfl):PE X (.Compare a [op,op'] [b,c] pos) (Zg7 r r' ta tb tc):=by
 refine fun f s σ H Q I h=>Compare_chain (thn (ha f s σ H _ I h) fun v K⟨x,n,F,D,o⟩=>chain_link (thn (hb f K σ n _ F o) fun u J⟨y,M,p,l,t⟩=>
  thn (ho f J σ M x y v u _ p D l t) fun d w xq1=>?_)) hm
 obtain⟨z,i,g,m,k,e,j⟩:=xq1;subst e;cases m;refine Uu ?_;cases k with
 |false=>exact ite_ff ⟨.bl false,i,g,rfl,j⟩
 |_=>exact ite_tt (chain_last (thn (hc f w σ i _ g j) fun G q⟨L,C,A,E,B⟩=>ho' _ q σ C y L u G Q A l E B))
theorem ZgO{op op'}{r r'}(ho:OpR X (compareOp op) r)(ho':OpR X (compareOp op') r')(ha:PE X a ta)(hb:PE X b tb)(hc:PE X c tc)
  (hm:lastMarks [op,op'] [b,c]=false:=by with_unfolding_all rfl):PT X (.Compare a [op,op'] [b,c] pos) (Zjo (Zg7 r r' ta tb tc)):=by
 refine fun f s σ H Q I h=>isTrue_chain (thn (ha f s σ H _ I h) fun v n⟨x,o,N,L,t⟩=>test_link (thn (hb f n σ o _ N t) fun u P⟨y,S,w,l,C⟩=>
  thn (ho f P σ S x y v u _ w L l C) fun d D xq1=>?_)) hm
 obtain⟨z,i,g,U,k,e,j⟩:=xq1;subst e;cases U;refine Uu ?_;cases k with
 |false=>
  obtain⟨_,m,G⟩:=j;cases m;exact ite_ff ⟨i,g,G⟩
 |_=>
  refine ite_tt (test_last (thn (hc f D σ i _ g j) fun F A⟨T,p,J,M,K⟩=>thn (ho' f A σ p y T u F _ J l M K) fun _ _ xq1=>?_));obtain⟨_,E,B,O,_,q,R⟩:=xq1;subst q;cases O;exact Uu ⟨E,B,R⟩
def ZmY(K:PySem.W.Frag)(x:V)(H:Hp)(k:Bool):Prop:=
 match x with
 | .non=>k=false
 | .bl b=>k=b
 | .int i=>k=(i !=0)
 | .str y=>y.length<=sizeLine/\k=((y.length:Int) !=0)
 | .byt y=>y.size<=sizeLine/\k=((y.size:Int) !=0)
 | .ref p=>(∃xs,SqL K H p xs/\k= !xs.isEmpty)\/(∃xs,SqT K H p xs/\k= !xs.isEmpty)\/∃kvs,H p=some (.dK kvs)/\k= !kvs.isEmpty
 |_=>False
theorem Ze9{κ}{kvs}{vs:List (κ×Value)}(r:KV kvs vs):(!vs.isEmpty)= !kvs.isEmpty:=by
 cases r<;>rfl
theorem ZbJ{xs}{its}(r:Vals xs its):(!its.toArray.isEmpty)= !xs.isEmpty:=by
 cases r<;>simp
theorem ZbF:sizeLine<2^63:=by decide
theorem ZjC:Zof X (fun x H Q=>∃k,ZmY X.K x H k/\Q k H):=by
 intro _ s σ H x v Q I f h;obtain⟨k,e,q⟩:=h;have _:=QP;cases x with
 |non=>
  cases f
  have a:=e;subst a;exact truthy_none ⟨H,I,q⟩
 |bl b=>
  cases f
  have a:=e;subst a;exact Uu ⟨H,I,q⟩
 |int i=>
  obtain⟨t,rfl⟩:=f;have a:=e;subst a;exact PySem.P.truthy_int ⟨H,I,q⟩
 |str y=>
  obtain⟨t,rfl⟩:=f;obtain⟨B,a⟩:y.length<=sizeLine/\k=((y.length:Int) !=0):=e;subst a;exact PySem.P.truthy_str (by omega) ⟨H,I.tok _,q⟩
 |byt y=>
  obtain⟨t,rfl⟩:=f;obtain⟨B,a⟩:y.size<=sizeLine/\k=((y.size:Int) !=0):=e;subst a;exact PySem.W.truthy_bytes (by omega) ⟨H,I.tok _,q⟩
 |ref p=>
  cases f
  have a:=e;rcases a with⟨z,j,a⟩|⟨z,j,a⟩|⟨g,j,a⟩
  ·subst a
   obtain⟨o,r,l,u⟩:=I.list j;have d:=r.length;exact wpAny_truthy_list l.isList (by simp[QA];omega) ⟨H,I.tok _,by rw[ZbJ r];exact q⟩
  ·subst a
   obtain⟨o,r,l,u⟩:=I.tuple j;have d:=r.length;exact truthy_tuple l (by simp[QA];omega) ⟨H,I.tok _,by rw[ZbJ r];exact q⟩
  ·subst a
   obtain⟨u,A,n,r,m⟩:g.length<=sizeLine/\(p==sysModules)=_/\∃n,KV g n/\s.heap.DictOf (ZQ X.prog X.w) p n:=I.hok p _ j;have d:=Paired.length r;exact wpAny_truthy_dict A m (by omega) ⟨H,I.tok _,by rw[Ze9 r];exact q⟩
 |_=>exact e.elim
theorem YU(ha:PE X a ta)(he:∀whole,isTrue a X.env whole=(do let v<-whole;standAt a.pos;holding [v] (truthy v))):
  PT X a (fun σ H Q=>ta σ H fun x H'=>∃k,ZmY X.K x H' k/\Q k H'):=fun b s σ H Q I h=>isTrue_plain (thn (ha b s σ H _ I h) fun v d⟨x,g,c,f,e⟩=>ZjC _ d σ g x v Q c f e) (he _)
theorem vals1{x}{us}(r:Vals [x] us):∃u,us=[u]/\RelV x u:=by
 cases r with
 |cons a b=>cases b;exact⟨_,rfl,a⟩
theorem vals2{x y}{us}(r:Vals [x,y] us):∃u w',us=[u,w']/\RelV x u/\RelV y w':=by
 cases r with
 |cons _ b=>
  cases b with
  |cons _ c=>cases c;grind
theorem ZcA(hc:X.calm=true):CallR X (.builtin "max") (fun xs H Q=>∃i j,xs=[.int i,.int j]/\Q (.int (if j>i then j else i)) H):=by
 intro _ s σ H xs _ Q I r h;obtain⟨i,j,rfl,q⟩:=h;obtain⟨u,_,rfl,⟨t,rfl⟩,⟨_,rfl⟩⟩:=vals2 r;refine max_two_ints (I.ok.hd hc) fun _ _ k=>⟨_,H,I.kept k,?_,q⟩;by_cases a:j>i
 ·rw[if_pos a,if_pos a];exact⟨_,rfl⟩
 ·rw[if_neg a,if_neg a];exact⟨_,rfl⟩
theorem Zgv:CallR X (.type "int") (fun xs H Q=>(∃i,xs=[.int i]/\Q (.int i) H)\/∃k,xs=[.bl k]/\Q (.int (if k then 1 else 0)) H):=by
 intro _ s σ H xs _ Q I r h;rcases h with⟨i,rfl,q⟩|⟨k,rfl,q⟩
 ·obtain⟨u,rfl,t,rfl⟩:=vals1 r
  exact call_int_int ⟨.int i,H,I,⟨_,rfl⟩,q⟩
 ·obtain⟨u,rfl,a⟩:=vals1 r
  cases a
  exact call_int_bool ⟨.int (if k then 1 else 0),H,I.tok _,⟨_,rfl⟩,q⟩
end
structure ObjM(h:Heap)(x dx C:Addr)(mA:Str->Option Value):Prop where
 obj:h.get? x=some (PySem.W.instObj C dx)
 ns:h.Ns1 dx mA
 ne:dx≠x
theorem Zcz{h:Heap}{dx}{mA}(n:h.Ns1 dx mA):∃od,h.get? dx=some od/\∀name,PySem.W.lookIn name od=some (mA name):=by
 obtain⟨o,j,_,f,g,d,_,c⟩:=n;refine⟨o,f,fun name=>?_⟩;have e:=c name;unfold nsFind findBy at e;rw[<-Array.find?_toList]at e;unfold PySem.W.lookIn;rw[g];dsimp only;split
 ·simp_all
 ·rename_i q
  rw[q]at e;have a:j.toList.any (·.refKey)=false:=by
   rw[List.any_eq_false];intro y i;obtain⟨z,t,b⟩:=d y (U0.mp i);simp[DictEntry.refKey,b]
  grind
theorem ObjM.look{h}{x dx C}{mA}(I:ObjM h x dx C mA):∃od,PySem.W.InstAt h x (PySem.W.instObj C dx) C (some od)/\∀name,PySem.W.lookIn name od=some (mA name):=
 let⟨od,a,b⟩:=Zcz I.ns
 ⟨od,⟨I.obj,rfl,rfl,a⟩,b⟩
section
variable{prog:Program}{w:World}{A:Around}{E:Value->Shared->Prop}{s:Shared}{K:PySem.W.Frag}{x dx C f:Addr}{mA:Str->Option Value}{name:Str}{v:Value}
theorem Zh6{pl}{Q}(X:K.In s.heap)(I:ObjM s.heap x dx C mA)(hg:PySem.W.plainGet K C name=true)
  (hf:PySem.W.findIn K (.ref C) name=some (some (.ref f)))(ht:PySem.W.isFn K (.ref f)=true)(hv:mA name=none)(h:Q (.ref f,[.ref x]) s):
  wpAny (model prog w) A (getMethod (.ref x) name pl) Q E s:=by
 obtain⟨a,J,b⟩:=I.look;exact PySem.W.method_fn X J (PySem.W.plainGet_of hg).1 (PySem.W.plainGet_of hg).2 hf (Ve.mp ht) (by show(PySem.W.lookIn name a).map (·.isSome)=some _;rw[b,hv];rfl) h
theorem ZfZ{R}(X:K.In s.heap)(hm:PySem.W.makesIn K C=true)
  (hi:PySem.W.findIn K (.ref C) "__init__"=some (some (.builtin "object.__init__")))
  (hb:∀self,PySem.W.Looks (model prog w) s.heap (bindSpecial (.builtin "object.__init__") self) (.builtin "object.__init__",[self]))
  (h:codeAny (model prog w) (A.under (.builtin "type.__call__" ⟨[.ref C],[]⟩)) (.call (.builtin "object.__init__") ⟨[.ref (s.heap.objs.size+1)],[]⟩) (PySem.W.InitBack (s.heap.objs.size+1) R)
   {s with heap:=(s.heap.push PySem.W.emptyDict).push (PySem.W.instObj C s.heap.objs.size)}):
  codeAny (model prog w) A (.call (.ref C) ⟨[],[]⟩) R s:=by
 obtain⟨_,g,d,t,os⟩:=s;exact PySem.W.make_core (PySem.W.makes_of X hm) (PySem.W.looks_findIn X hi) hb (.inr ⟨rfl,rfl⟩) h
end
def putF(f:Str)(v:V):List (Str×V)->List (Str×V)
 |[]=>[(f,v)]
 |(g,x)::r=>if g=f then(g,v)::r else(g,x)::putF f v r
theorem RelO.some_of{v}{o:Option _}(r:RelO (some v) o):∃u,o=some u/\RelV v u:=by
 cases o with
 |none=>exact r.elim
 |some u=>exact⟨u,rfl,r⟩
theorem RelO.none_of{o:Option _}(r:RelO none o):o=none:=by
 cases o with
 |none=>rfl
 |_ u=>exact r.elim
theorem Zgi{v}{u}(r:RelV v u):PySem.W.handedIn u=true:=by
 cases v with
 |non=>cases r;rfl
 |bl b=>cases r;rfl
 |int i=>obtain⟨t,e⟩:=r;cases e;rfl
 |str x=>obtain⟨t,e⟩:=r;cases e;rfl
 |byt b=>obtain⟨t,e⟩:=r;cases e;rfl
 |flt b=>obtain⟨t,e⟩:=r;cases e;rfl
 |ref a=>cases r;rfl
 |_ n=>cases r;rfl
section
variable{P:Program}{w:World}{H H':Hp}{h h':Heap}{a C dx:Addr}{fs fs':List (Str×V)}
theorem Zfs(hok:HOk P w H h)(e:H a=some (.ins C dx fs)):∃mA,ObjM h a dx C mA/\(∀f,RelO (fs.lookup f) (mA f))/\PySem.Within mA (fs.map (·.1))/\fs.length<=1000/\H dx=some (.own a):=by
 obtain⟨d,z,b,c,mA,n,r,q⟩:=(hok a _ e);exact⟨mA,⟨c,n,b⟩,r,q,z,d⟩
end
structure Cls(K:PySem.W.Frag)(C:Addr):Prop where
 pg:PySem.W.plainGet K C Str.empty=true
 hd:PySem.W.hasDictIn K C=true
 po:PySem.W.plainOver K C=true
 sa:PySem.W.findIn K (.ref C) "__setattr__"=some (some (.builtin "object.__setattr__"))
theorem Cls.get{K}{C}(c:Cls K C)(f):PySem.W.plainGet K C f=true:=c.pg
structure Zgz(K:PySem.W.Frag)(C:Addr)(m:Str)(f:Addr):Prop where
 at_:PySem.W.findIn K (.ref C) m=some (some (.ref f))
 fn:PySem.W.isFn K (.ref f)=true
 kp:PySem.W.keepIn K (.ref f)=true
section
variable{X:Cx}{pins:List (Addr×Obj)}{σ:St}{H:Hp}{s:Shared}{a C dx:Addr}{fs:List (Str×V)}{f:Str}{v:V}{A:Around}{E:Value->Shared->Prop}
theorem ZbL{m}{g}{pl}{Q:Value×List _->Shared->Prop}(I:Inv X pins σ H s)(e:H a=some (.ins C dx fs))(c:Cls X.K C)(k:Zgz X.K C m g)(l:fs.lookup m=none)
  (h:Q (.ref g,[.ref a]) s):wpAny (model X.prog X.w) A (getMethod (.ref a) m pl) Q E s:=by
 obtain⟨_,O,r,_,_,_⟩:=Zfs I.hok e;exact Zh6 I.kIn O (c.get m) k.at_ k.fn (RelO.none_of (by rw[<-l];exact r m)) h
theorem Inv.made(I:Inv X pins σ H s):Inv X pins σ (upd (upd H s.heap.objs.size (.own (s.heap.objs.size+1))) (s.heap.objs.size+1) (.ins C s.heap.objs.size []))
  {s with heap:=(s.heap.push PySem.W.emptyDict).push (PySem.W.instObj C s.heap.objs.size)}:=by
 have f:(s.heap.push _).get? _=some PySem.W.emptyDict:=Ql _ rfl;have j:((s.heap.push PySem.W.emptyDict).push (PySem.W.instObj C s.heap.objs.size)).get? (s.heap.objs.size+1)=some (PySem.W.instObj C s.heap.objs.size):=by
  have:=Ql (s.heap.push PySem.W.emptyDict) (o:=PySem.W.instObj C s.heap.objs.size) rfl
  simp_all
 refine(I.laid (o:= .own (s.heap.objs.size+1)) (t':=s.toks) (fun b u q=>Qc _ q) (Qe _) ⟨_,f⟩).laid (fun b u q=>Qc _ q) (Nat.le_of_eq (QR _ _)) ?_;have g:s.heap.objs.size≠s.heap.objs.size+1:=Qo (Q7 _);refine⟨by rw[Zi g,Zd],QE _,g,j,fun _=>none,(Heap.Ns1.of_empty (show(s.heap.push _).Ns _ (fun _=>none)from⟨_,_,_,f,rfl,(fun e i=>absurd i (by simp)),fun _=>rfl⟩)).at fun o q=>Qc _ q,fun _=>True.intro,fun y h=>absurd rfl h⟩
theorem Zjg{prog}{w}{env}{e}{f}{pos}{s}{Q}(hb:attributeBase e f env (eval e env)=eval e env)
  (h:wpAny (model prog w) A (eval e env) (fun o s₁=>wpAny (model prog w) A (getAttr o f true) Q E s₁) E s):wpAny (model prog w) A (eval (.Attribute e f pos) env) Q E s:=
 Attribute_any_ h (by rw[arm_eval_Attribute,hb])
end
section
variable{X:Cx}{o e value:Expr}{f:Str}{pos pos' tpos:Pos}{ta tv:TE}
theorem Zj2{pl:Sem _}{m}{apos}{args:List _}{pins:List (Addr×Obj)}{s}{σ:St}{H}{Q:Value->Shared->Prop}{te}(he:PE X e te)(I:Inv X pins σ H s)
  (h:te σ H fun x H1=>E5 fun a C dx fs g=>x= .ref a/\H1 a=some (.ins C dx fs)/\Cls X.K C/\Zgz X.K C m g/\fs.lookup m=none/\
   ∀s1,Inv X pins σ H1 s1->wpAny (model X.prog X.w) X.A (callWith pos (.ref g) [.ref a] (backTo pos (starEach args X.env)) (backToKw pos (keywordEach [] X.env))) Q X.xe s1)
  (ht:eval (.Call (.Attribute e m apos) args [] pos) X.env=(do
   let ov<-eval e X.env
   standAt apos.atName
   let(f,first)<-holding [ov] (getMethod ov m pl)
   callWith pos f first (backTo pos (starEach args X.env)) (backToKw pos (keywordEach [] X.env)))):
  wpAny (model X.prog X.w) X.A (eval (.Call (.Attribute e m apos) args [] pos) X.env) Q X.xe s:=by
 refine PySem.W.methodCall_KW (pl:=pl) (thn (he pins s σ H _ I h) fun u s1 xq1=>?_) ht;obtain⟨x,H1,b,j,a,C,dx,fs,g,i,d,c,k,l,q⟩:=xq1;subst i;obtain rfl:u=Value.ref a:=j;exact ZbL b d c k l (q s1 b)
end
section
variable{X:Cx}{pins:List (Addr×Obj)}{σ:St}{H:Hp}{s:Shared}{A:Around}{E:Value->Shared->Prop}{Q:Value->Shared->Prop}{c:Value}{b:Bool}
inductive JO(K:PySem.W.Frag)(H:Hp):V->Value->Prop where
 |non:JO K H .non (.type "NoneType")
 |bl (x:Bool):JO K H (.bl x) (.type "bool")
 |int (i:Int):JO K H (.int i) (.type "int")
 |str (x:Str):JO K H (.str x) (.type "str")
 |flt (x:UInt64):JO K H (.flt x) (.type "float")
 |lst {a:Addr} {xs:List V} (e:H a=some (.lst xs)):JO K H (.ref a) (.type "list")
 |frz {a:Addr} {o:Obj} {xs:List V} (e:H a=some (.frz o (.lst xs))):JO K H (.ref a) (.type "list")
 |tup {a:Addr} {xs:List V} (e:H a=some (.tup xs)):JO K H (.ref a) (.type "tuple")
 |dK {a:Addr} {kvs:List (Key×V)} (e:H a=some (.dK kvs)):JO K H (.ref a) (.type "dict")
 |dT {a:Addr} {kvs:List (List Key×V)} (e:H a=some (.dT kvs)):JO K H (.ref a) (.type "dict")
 |ins {a C dx:Addr} {fs:List (Str×V)} (e:H a=some (.ins C dx fs)) (cl:Cls K C) (ha:PySem.W.findIn K (.ref C) "__class__"=some (some (.builtin "object.__class__")))
   (hn:PySem.W.specialIn K (.builtin "object.__class__") "__get__"=some (some (.builtin "getset_descriptor.__get__"))) (htk:PySem.W.takesIn K (.builtin "object.__class__")=some true)
   (hm:PySem.W.mroIn K C (.type "object")=some true):JO K H (.ref a) (.ref C)
theorem Zc2{x}{u t:Value}(I:Inv X pins σ H s)(rx:RelV x u)(ty:JO X.K H x t)(e:PySem.W.kitOne X.K t c=some b)(h:∀tk,Q (.bool b) {s with toks:=tk}):
  wpAny (model X.prog X.w) A (call (.builtin "isinstance") [u,c]) Q E s:=by
 cases ty with
 |non=>cases rx;exact Uw PySem.W.kitx_none I.kIn True.intro e (fun z=>nomatch z) h
 |bl y=>cases rx;exact Uw PySem.W.kitx_bool I.kIn True.intro e (fun z=>nomatch z) h
 |int i=>obtain⟨t,q⟩:=rx;cases q;exact Uw PySem.W.kitx_int I.kIn True.intro e (fun z=>nomatch z) h
 |str y=>obtain⟨t,q⟩:=rx;cases q;exact Uw PySem.W.kitx_str I.kIn True.intro e (fun z=>nomatch z) h
 |flt y=>obtain⟨t,q⟩:=rx;cases q;exact Uw PySem.W.kitx_float I.kIn True.intro e (fun z=>nomatch z) h
 |@lst a j d=>
  cases rx
  obtain⟨_,_,n,_,f⟩:=(I.hok a _ d);exact Uw PySem.W.kitx_list I.kIn ⟨_,f,rfl⟩ e (fun z=>nomatch z) h
 |@frz a _ j d=>
  cases rx
  obtain⟨_,_,_,n,_,f⟩:=(I.hok a _ d);exact Uw PySem.W.kitx_list I.kIn ⟨_,f,rfl⟩ e (fun z=>nomatch z) h
 |@tup a j d=>
  cases rx
  obtain⟨_,_,_,p⟩:=(I.hok a _ d);obtain⟨o,f,g,_⟩:=p;exact Uw PySem.W.kitx_tuple I.kIn ⟨o,f,g⟩ e (fun z=>nomatch z) h
 |@dK a k d=>
  cases rx
  obtain⟨_,_,_,_,p⟩:=(I.hok a _ d);obtain⟨o,r,D,f,g,_⟩:=p;exact Uw PySem.W.kitx_dict I.kIn ⟨o,f,g.1⟩ e (fun z=>nomatch z) h
 |@dT a k d=>
  cases rx
  obtain⟨_,_,j,_,o,r,D,f,g,_⟩:=(I.hok a _ d);exact Uw PySem.W.kitx_dict I.kIn ⟨o,f,g.1⟩ e (fun z=>nomatch z) h
 |@ins a C _ _ d m v F l B=>
  cases rx
  obtain⟨_,O,_⟩:=Zfs I.hok d;obtain⟨_,J,_⟩:=O.look;exact Uw (PySem.W.kitx_own (m.get _) m.hd v F l B) I.kIn J e (fun z=>nomatch z) h
end
structure Room(k:Nat)(A:Around):Prop where
 hd:A.handled=none
 dp:A.depth+3*k+5<recursionLimit
 un:A.units+16*k+200<cLine
theorem Room.mono{j k}{A}(r:Room k A)(h:j<=k):Room j A:=⟨r.hd,by have:=r.dp;omega,by have:=r.un;omega⟩
theorem Room.deeper{k}{A}(r:Room (k+1) A)(env:Env):Room k (A.deeper env):=
 ⟨r.hd,by have:=r.dp;show A.depth+1+3*k+5<_;omega,by have:=r.un;show A.units+3+16*k+200<_;omega⟩
theorem Ze7{A:Around}{C}{us}{kw}:(A.under (.builtin "type.__call__" ⟨.ref C::us,kw⟩)).depth=A.depth+1:=by
 first|rfl|omega
theorem Ze6{A:Around}{C:Addr}{us:List _}{kw:List _}:(A.under (.builtin "type.__call__" ⟨.ref C::us,kw⟩)).units=A.units+1:=by
 first|rfl|omega
theorem Room.make{k}{A}(r:Room (k+1) A)(C)(us)(kw):Room k (A.under (.builtin "type.__call__" ⟨.ref C::us,kw⟩)):=
 ⟨r.hd,by have:=r.dp;rw[Ze7];omega,by have:=r.un;rw[Ze6];omega⟩
theorem Room.depth{k}{A}(r:Room k A):A.depth<recursionLimit:=by have:=r.dp;omega
theorem Room.units{k}{A}(r:Room k A):A.units+64<cLine:=by have:=r.un;omega
def tNil:TA:=fun _ H Q=>Q [] H
def Zbv(ta:TE)(tr:TA):TA:=fun σ H Q=>ta σ H fun x H1=>tr σ H1 fun xs H2=>Q (x::xs) H2
section
variable{X:Cx}{e:Expr}{es:List Expr}{te:TE}{t:TA}{pos:Pos}
theorem Za:PA X [] tNil:=fun _ _ _ _ H Q I h=>Calls.spliced_nil ⟨[],H,I,.nil,h⟩
theorem Zfd(ha:PE X e te)(hr:PA X es t)(hs:starEach (e::es) X.env=(false,eval e X.env)::starEach es X.env:=by rfl):PA X (e::es) (Zbv te t):=by
 intro b a s σ H Q I h;rw[hs];exact UU (thn (ha a s σ H _ I h) fun u i⟨x,k,d,m,f⟩=>thn (hr b a i σ k _ d f) fun _ _⟨_,l,g,j,c⟩=>⟨_,l,g,.cons m j,c⟩)
def Znf(t:TA):TE:=fun σ H Q=>t σ H fun xs H1=>xs.length<=sizeLine/\∀p,H1 p=none->Q (.ref p) (upd H1 p (.tup xs))
def Zin(t:TA):TE:=fun σ H Q=>t σ H fun xs H1=>xs.length<=sizeLine/\∀p,H1 p=none->Q (.ref p) (upd H1 p (.lst xs))
theorem ZcT{x1}(h:PA X es t):PE X (.Tuple es x1 pos) (Znf t):=by
 refine fun a s σ H Q I g=>wpAny_Tuple_spliced (thn (h pos a s σ H _ I g) fun f d⟨_,_,c,r,z,q⟩=>⟨by rw[<-r.length];exact z,.ref d.heap.objs.size,_,c.laid (fun b u e=>Qc _ e) (Qe _) ?_,rfl,q _ (c.hok.fresh (Qe _))⟩);exact⟨z,f,r,⟨_,Ql _ rfl,rfl,_,rfl⟩⟩
theorem ZI(h:PA X es t):PE X (.List es pos) (Zin t):=by
 refine fun a s σ H Q I g=>wpAny_List_spliced (thn (h pos a s σ H _ I g) fun f d⟨_,_,c,r,z,q⟩=>⟨by rw[<-r.length];exact z,.ref d.heap.objs.size,_,c.laid (fun b u e=>Qc _ e) (Qe _) ?_,rfl,q _ (c.hok.fresh (Qe _))⟩);exact⟨z,f,0,r,Ql _ rfl⟩
end
abbrev Sp:=List V->Hp->VK->XK->Prop
abbrev CXT:=List Env->Hp->Shared->XK->Value->Shared->Prop
structure Env0(P:Program)(w:World)(K:PySem.W.Frag)(mg:Str->Option Value)(base:Heap)(A:Around)(outer:List Env)(s:Shared)(H:Hp):Prop where
 frames:A.frames=some outer
 mod:Mod K mg base
 bs:∀b o,base.get? b=some o->s.heap.get? b=some o/\H b=none
 bsz:base.objs.size<=s.heap.objs.size
 funs:s.heap.FunFrames base outer
 frf:∀b∈frs outer,H b=none
 hok:HOk P w H s.heap
 bare:AllBare s.gens
def CE(outer:List Env)(P:Program)(w:World)(H:Hp)(s:Shared)(Q:VK)(u:Value)(s':Shared):Prop:=
 ∃v H',s'.os=s.os/\AllBare s'.gens/\Un (frs outer) [] H H' s.heap s'.heap/\HOk P w H' s'.heap/\RelV v u/\Q v H'
def CR(CX:CXT)(outer:List Env)(P:Program)(w:World)(H:Hp)(s:Shared)(Q:VK)(E:XK)(r:Result)(s':Shared):Prop:=
 match r with
 | .ok (.ret u)=>CE outer P w H s Q u s'
 | .ok _=>False
 | .error e=>CX outer H s E e s'
structure FnOk(P:Program)(w:World)(K:PySem.W.Frag)(mg:Str->Option Value)(base:Heap)(CX:CXT)(k:Nat)(f:Addr)(fd:FuncData)(ps:List Str)(sp:Sp):Prop where
 len:∀vs H Q E,sp vs H Q E->vs.length=ps.length
 run:∀(A:Around)(outer:List Env)(s:Shared)(H:Hp)(args:Args)(us:List Value)(vs:List V)(Q:VK)(E:XK),Room k A->Env0 P w K mg base A outer s H->BindsTo s fd args (ps.zip us)->Vals vs us->sp vs H Q E->
  codeAny (model P w) A (.call (.ref f) args) (CR CX outer P w H s Q E) s
theorem FnOk.mono{P}{w}{K}{mg}{base}{CX}{j k}{f}{fd}{ps:List _}{sp:Sp}(F:FnOk P w K mg base CX j f fd ps sp)(h:j<=k):
  FnOk P w K mg base CX k f fd ps sp:=⟨F.len,fun A _ s H _ c a Q E b=>F.run A _ s H _ c a Q E (b.mono h)⟩
theorem FnOk.imp{P}{w}{K}{mg}{base}{CX}{k}{f}{fd}{ps}{sp sp'}(F:FnOk P w K mg base CX k f fd ps sp)
  (h:∀vs H Q E,sp' vs H Q E->sp vs H Q E):FnOk P w K mg base CX k f fd ps sp':=
 ⟨fun vs H Q E q=>F.len vs H Q E (h _ _ _ _ q),fun A _ s H _ e vs Q E b c a g d=>F.run A _ s H _ e vs Q E b c a g (h _ _ _ _ d)⟩
theorem Env0.make{P}{w}{K}{mg}{base}{A}{outer}{s}{H}(e:Env0 P w K mg base A outer s H)(C:Addr)(us:List _)(kw:List _):
  Env0 P w K mg base (A.under (.builtin "type.__call__" ⟨.ref C::us,kw⟩)) outer s H:=⟨by first|exact e.frames|omega,e.mod,e.bs,e.bsz,e.funs,e.frf,e.hok,e.bare⟩
section
variable{X:Cx}{pins:List (Addr×Obj)}{σ:St}{H:Hp}{s s':Shared}
theorem Inv.env0(I:Inv X pins σ H s):Env0 X.prog X.w X.K X.mg X.base X.A X.stack s H:=
 ⟨I.ok.frames,I.ok.mod,I.bs,QM I.ok.bsz I.sz,I.stack,I.stkFree,I.hok,I.bare⟩
theorem Inv.after{Q}{u}(I:Inv X pins σ H s)(h:CE X.stack X.prog X.w H s Q u s'):EP X pins σ Q u s':=by
 obtain⟨v,i,os,a,f,e,r,q⟩:=h;obtain⟨_,g,d,t,c⟩:=s';obtain rfl:c=s.os:=os;exact⟨v,i,I.call f e a (fun b z=>absurd z (by simp)),r,q⟩
end
def ZeS(sp:Sp)(dvs:List V)(E:XK)(t:TA):TE:=fun σ H Q=>t σ H fun vs H1=>sp (vs++dvs) H1 Q E
def Zjp(C:Addr)(m:Str)(sp:Sp)(dvs:List V)(E:XK)(ta:TE)(t:TA):TE:=fun σ H Q=>ta σ H fun x H1=>∃a dx fs,x= .ref a/\H1 a=some (.ins C dx fs)/\fs.lookup m=none/\
 t σ H1 fun vs H2=>sp (x::(vs++dvs)) H2 Q E
def Binds(K:PySem.W.Frag)(fd:FuncData)(ps:List Str)(ds:List Value):Prop:=
 ∀(s:Shared)(us:List Value),K.In s.heap->(us++ds).length=ps.length->BindsTo s fd ⟨us,[]⟩ (ps.zip (us++ds))
theorem Binds.all{K}{fd}{ps}(h:∀us:List _,us.length=ps.length->bindArgs fd ⟨us,[]⟩=pure (ps.zip us)):Binds K fd ps []:=fun s us _ a=>by
 rw[UY]at a⊢;exact .of_eq (h us a)
def Zah(CX:CXT)(X:Cx)(E:XK):Prop:=∀(pins)(σ:St)(H)(s)(e)(s'),Inv X pins σ H s->CX X.stack H s E e s'->X.xe e s'
section
variable{X:Cx}{CX:CXT}{k:Nat}{f C:Addr}{fd:FuncData}{ps:List Str}{sp:Sp}{dvs:List V}{ds:List Value}{E:XK}{x m:Str}{p pos apos:Pos}{e o:Expr}{es:List Expr}{ta:TE}{t:TA}
theorem ZgI{pins}{σ:St}{H}{s}{Q}{us}{vs}(F:FnOk X.prog X.w X.K X.mg X.base CX k f fd ps sp)(hr:Room k X.A)(hb:Binds X.K fd ps ds)(hd:Vals dvs ds)(hx:Zah CX X E)
  (I:Inv X pins σ H s)(r:Vals vs us)(h:sp (vs++dvs) H Q E):wpAny (model X.prog X.w) X.A (call (.ref f) us) (EP X pins σ Q) X.xe s:=by
 have b:=r.append hd;refine Va (UE (F.run _ _ s H _ _ _ Q E hr I.env0 (hb s us I.kIn (show(us++ds).length=ps.length by rw[<-b.length];exact F.len _ _ _ _ h)) b h) fun r d a=>?_);cases r with
 |error e=>exact hx _ σ H s e d I a
 |_ c=>
  cases c with
  |ret u=>exact I.after a
  |next=>exact False.elim a
  |brk=>exact False.elim a
  |_=>exact False.elim a
theorem Zbe(F:FnOk X.prog X.w X.K X.mg X.base CX k f fd ps sp)(hr:Room k X.A)(hg:Gl X x)(hm:X.mg x=some (.ref f))(hk:PySem.W.keepIn X.K (.ref f)=true)(hb:Binds X.K fd ps ds)(hd:Vals dvs ds)(hx:Zah CX X E)
  (ha:PA X (e::es) t)(hdb:(x==("__debug__":Str))=false:=by decide)(he:starEach (e::es) X.env=(false,eval e X.env)::starEach es X.env:=by rfl)(hpl:(backTo pos (starEach es X.env)).any (·.1)=false:=by rfl):
  PE X (.Call (.Name x p) (e::es) [] pos) (ZeS sp dvs E t):=fun a s σ H Q I h=>Up (Jp I hg hm (PySem.W.callWith_K (h₀:=X.base) I.ok.mod.kin hk (thn (ha pos a s σ H _ I h) fun _ _⟨_,_,b,r,q⟩=>⟨b.kIn,ZgI F hr hb hd hx b r q⟩) he hpl) hdb)
theorem Zfb{pl:Sem _}(he:PE X o ta)(c:Cls X.K C)(hm:Zgz X.K C m f)(F:FnOk X.prog X.w X.K X.mg X.base CX k f fd ps sp)(hr:Room k X.A)(hb:Binds X.K fd ps ds)(hd:Vals dvs ds)(hx:Zah CX X E)(ha:PA X (e::es) t)
  (hst:starEach (e::es) X.env=(false,eval e X.env)::starEach es X.env:=by rfl)(hpl:(backTo pos (starEach es X.env)).any (·.1)=false:=by rfl)
  (ht:eval (.Call (.Attribute o m apos) (e::es) [] pos) X.env=(do
   let ov<-eval o X.env
   standAt apos.atName
   let(f,first)<-holding [ov] (getMethod ov m pl)
   callWith pos f first (backTo pos (starEach (e::es) X.env)) (backToKw pos (keywordEach [] X.env))):=by rfl):
  PE X (.Call (.Attribute o m apos) (e::es) [] pos) (Zjp C m sp dvs E ta t):=by
 refine fun b s σ H Q I h=>PySem.W.methodCall_KW (pl:=pl) (thn (he b s σ H _ I h) fun u z xq1=>?_) ht;obtain⟨x,v,i,G,a,_,_,y,D,l,q⟩:=xq1;subst y;obtain rfl:u=Value.ref a:=G;exact ZbL i D c hm l (PySem.W.callWith_K (first:=[.ref a]) (h₀:=X.base) I.ok.mod.kin hm.kp (thn (ha pos b z σ v _ i q) fun us _⟨vs,_,p,r,B⟩=>⟨p.kIn,ZgI (us:= .ref a::us) (vs:= .ref a::vs) F hr hb hd hx p (.cons rfl r) B⟩) hst hpl)
structure Mk(K:PySem.W.Frag)(C f:Addr):Prop where
 makes:PySem.W.makesIn K C=true
 init:PySem.W.findIn K (.ref C) "__init__"=some (some (.ref f))
 fn:PySem.W.isFn K (.ref f)=true
 kp:PySem.W.keepIn K (.ref C)=true
end
def PK(X:Cx)(kws:List Keyword)(t:TA):Prop:=
 ∀(pos)(pins:List (Addr×Obj))(s)(σ:St)(H)(Q:List V->Hp->Prop),Inv X pins σ H s->t σ H Q->wpAny (model X.prog X.w) X.A (evalAll ((backToKw pos (keywordEach kws X.env)).map (·.2))) (AP X pins σ Q) X.xe s
section
variable{X:Cx}{CX:CXT}{k:Nat}{f C:Addr}{fd:FuncData}{ps ks:List Str}{sp:Sp}{E:XK}{x m:Str}{p pos apos kpos:Pos}{e o:Expr}{es:List Expr}{kws:List Keyword}{te ta:TE}{t tk:TA}{nm:Option Str}
theorem Zkh:PK X [] tNil:=fun _ _ _ _ H Q I h=>wpAny_evalAll_nil ⟨[],H,I,.nil,h⟩
theorem Zi1(ha:PE X e te)(hr:PK X kws t):PK X (⟨nm,e,kpos⟩::kws) (Zbv te t):=fun b a s σ H Q I h=>wpAny_evalAll_cons (Qa (thn (ha a s σ H _ I h) fun u j⟨x,k,f,d,g⟩=>Qa (wpAny_standAt (Qg (thn (hr b a j σ k _ f g) fun _ _⟨_,l,m,i,c⟩=>⟨_,l,m,.cons d i,c⟩)))))
structure Zca(K:PySem.W.Frag)(fd:FuncData)(ps ks:List Str)(g:List Value->List Value->List Value)(gV:List V->List V->List V):Prop where
 to:∀(s:Shared)(us ws:List Value),K.In s.heap->(g us ws).length=ps.length->BindsTo s fd ⟨us,ks.zip ws⟩ (ps.zip (g us ws))
 rel:∀{vs:List V}{us:List Value}{zs:List V}{ws:List Value},Vals vs us->Vals zs ws->Vals (gV vs zs) (g us ws)
def ZjI(sp:Sp)(gV:List V->List V->List V)(E:XK)(t tk:TA):TE:=fun σ H Q=>t σ H fun vs H1=>tk σ H1 fun zs H2=>sp (gV vs zs) H2 Q E
variable{g:List Value->List Value->List Value}{gV:List V->List V->List V}
theorem Zit{pins}{σ:St}{H}{s}{Q}{us ws}{vs zs}(F:FnOk X.prog X.w X.K X.mg X.base CX k f fd ps sp)(hr:Room k X.A)(hb:Zca X.K fd ps ks g gV)(hx:Zah CX X E)
  (I:Inv X pins σ H s)(r:Vals vs us)(rz:Vals zs ws)(h:sp (gV vs zs) H Q E):wpAny (model X.prog X.w) X.A (call (.ref f) us (ks.zip ws)) (EP X pins σ Q) X.xe s:=by
 have b:=hb.rel r rz;refine Va (UE (F.run _ _ s H _ _ _ Q E hr I.env0 (hb.to s us ws I.kIn (show(g us ws).length=ps.length by rw[<-b.length];exact F.len _ _ _ _ h)) b h) fun r d a=>?_);cases r with
 |error e=>exact hx _ σ H s e d I a
 |_ c=>
  cases c with
  |ret u=>exact I.after a
  |next=>exact False.elim a
  |brk=>exact False.elim a
  |_=>exact False.elim a
theorem ZgV(F:FnOk X.prog X.w X.K X.mg X.base CX k f fd ps sp)(hr:Room k X.A)(hg:Gl X x)(hm:X.mg x=some (.ref f))(hk:PySem.W.keepIn X.K (.ref f)=true)(hb:Zca X.K fd ps ks g gV)(hx:Zah CX X E)
  (ha:PA X (e::es) t)(hkw:PK X kws tk)(hall:(backToKw pos (keywordEach kws X.env)).all (·.1.isSome)=true:=by rfl)(hks:(backToKw pos (keywordEach kws X.env)).filterMap (·.1)=ks:=by rfl)
  (hdb:(x==("__debug__":Str))=false:=by decide)(he:starEach (e::es) X.env=(false,eval e X.env)::starEach es X.env:=by rfl)
  (hpl:((backTo pos (starEach (e::es) X.env)).any (·.1)||(backToKw pos (keywordEach kws X.env)).any (·.1.isNone))=false:=by rfl):
  PE X (.Call (.Name x p) (e::es) kws pos) (ZjI sp gV E t tk):=by
 refine fun a s σ H Q I h=>Up (Jp I hg hm (PySem.W.callWith_KW (h₀:=X.base) I.ok.mod.kin hk hall (thn (ha pos a s σ H _ I h) fun _ d⟨_,j,i,r,q⟩=>(thn (hkw pos a d σ j _ i q) fun _ _⟨_,_,b,c,l⟩=>⟨b.kIn,?_⟩)) hpl he) hdb);rw[hks];exact Zit F hr hb hx b r c l
end
structure Zm(N P:List Str)(sc:Scope):Prop where
 kind:sc.kind= .function
 co:sc.isCoroutine=false
 gen:sc.isGenerator=false
 nd:N.Nodup
 pre:N.take P.length=P
 par:∀x∈P,sc.names.lookup x=some .local\/sc.names.lookup x=some .cell
 nofree:∀y∈sc.names,y.2≠.free
theorem ZcB{kindOf}{x}:∀{binds}{m},(∀v,(x,v) ∉ binds)->bindL kindOf binds m x=m x
 |[],_,_=>rfl
 |(n,v)::r,m,h=>by
  unfold bindL;rw[ZcB fun w a=>h w (Uc _ a)];split
  ·grind
  ·rfl
theorem ZcD{kindOf}{x}:∀{binds}{m},(∀v,(x,v) ∉ binds)->bindC kindOf binds m x=m x
 |[],_,_=>rfl
 |(n,v)::r,m,h=>by
  unfold bindC;rw[ZcD fun w a=>h w (Uc _ a)];split
  ·rfl
  ·grind
theorem ZcC{kindOf}{x}{v}:∀{P:List _}{vs}{i:Nat}{m},P.Nodup->P[i]?=some x->vs[i]?=some v->kindOf x=some .local->
  bindL kindOf (P.zip vs) m x=some v
 |[],_,_,_,_,h,_,_=>by simp at h
 |_::_,[],_,_,_,_,h,_=>by simp at h
 |p::P,w::vs,0,m,d,a,b,c=>by
  simp at a b;subst a;subst b;show bindL _ ((p,w)::P.zip vs) m p=_;unfold bindL;rw[ZcB fun v e=>(QN.mp d).1 (List.of_mem_zip e).1,if_pos c];simp
 |p::P,w::vs,i+1,m,d,a,b,c=>by
  unfold bindL;exact ZcC (QN.mp d).2 (by simpa using a) (by simpa using b) c
theorem ZcE{kindOf}{x}{v}:∀{P:List _}{vs}{i:Nat}{m},P.Nodup->P[i]?=some x->vs[i]?=some v->kindOf x≠some .local->
  bindC kindOf (P.zip vs) m x=some v
 |[],_,_,_,_,h,_,_=>by simp at h
 |_::_,[],_,_,_,_,h,_=>by simp at h
 |p::P,w::vs,0,m,d,a,b,c=>by
  simp at a b;subst a;subst b;show bindC _ ((p,w)::P.zip vs) m p=_;unfold bindC;rw[ZcD fun v e=>(QN.mp d).1 (List.of_mem_zip e).1,if_neg c];simp
 |p::P,w::vs,i+1,m,d,a,b,c=>by
  unfold bindC;exact ZcE (QN.mp d).2 (by simpa using a) (by simpa using b) c
def start(N:List Str)(vs:List V):St:=vs.map some++List.replicate (N.length-vs.length) none
def Yg(CX:CXT)(P:Program)(w:World)(K:PySem.W.Frag)(mg:Str->Option Value)(base:Heap)(N:List Str)(qual:Str)(scope:Scope)(f:Addr)(cd:Value)(A:Around)(outer:List Env)(s:Shared)(H:Hp)(E:XK):Cx where
 prog:=P
 w:=w
 K:=K
 mg:=mg
 base:=base
 A:=A.deeper (envOfC qual scope s.heap.objs.size f cd)
 N:=N
 s₀:=s
 H₀:=H
 env:=envOfC qual scope s.heap.objs.size f cd
 outer:=outer
 stack:=envOfC qual scope s.heap.objs.size f cd::outer
 ex:=[]
 calm:=true
 fn:=fun _=>true
 pn:=[]
 xe:=fun e s'=>wpAny (model P w) (A.deeper (envOfC qual scope s.heap.objs.size f cd)) (leaving (envOfC qual scope s.heap.objs.size f cd) e) (fun _ s''=>CX outer H s E e s'') (fun e' s''=>CX outer H s E e' s'') s'
theorem ZdU{sc:Scope}{n:Nat}{x:Str}(h:sc.names.lookup x=some .cell):∃c,(cellsFrom n sc.names []).lookup x=some c:=Q6.mp (PySem.W.cellsFrom_some sc.names n [] (.inl h))
theorem Zge{CX}{P}{w}{K}{mg:Str->Option _}{base}{N ps:List _}{qual}{scope}{f}{cd}{A:Around}{outer:List _}{s s1:Shared}{H:Hp}{E:XK}{us:List _}{vs:List V}
  (S:Zm N ps scope)(hd:A.handled=none)(e0:Env0 P w K mg base A outer s H)(hl:vs.length=ps.length)(r:Vals vs us)
  (x:InCallC s s.heap.objs.size (bindL (envOfC qual scope s.heap.objs.size f cd).kindOf (ps.zip us) fun _=>none) (cellsFrom (s.heap.objs.size+1) scope.names []) (bindC (envOfC qual scope s.heap.objs.size f cd).kindOf (ps.zip us) fun _=>none) s1):
  Inv (Yg CX P w K mg base N qual scope f cd A outer s H E) [] (start N vs) H s1:=by
 have hpl:ps.length<=N.length:=by have:=UZ List.length S.pre;rw[UC]at this;omega
 obtain⟨B,tk,rfl,I⟩:=x.done;have l:∀b:Addr,b ∉ (Yg CX P w K mg base N qual scope f cd A outer s H E).ex:=fun b z=>absurd (show b∈([]:List Addr)from z) (by simp);refine⟨⟨e0.mod,S.kind,rfl,rfl,Qe _,fun y z c B g=>?_,fun y o=>?_,fun y c _ h=>?_,fun _=>hd,Around.frames_deeper e0.frames,.inr ⟨rfl,rfl⟩,fun b z=>absurd z (l b),e0.bs,e0.bsz,fun b _ _=>l b,fun b z=>absurd z (l b),e0.funs,e0.frf⟩,
  rfl,e0.bare,Un.kept I,⟨_,x.toInCall.ns,fun i y v B g h3=>?_⟩,fun y c h=>⟨_,x.cell y c h⟩,e0.hok.fresh (Qe _),fun y c h=>?_,fun p t=>absurd (show p∈([]:List (Addr×Obj))from t) (by simp),e0.hok.kept I,?_⟩
 ·exact name_of_addr x.apart (QS B) (QS g)
 ·rcases o with o|o
  ·exact ZdU o
  ·exact absurd rfl (S.nofree _ (QS o))
 ·exact Vf (x.above y c (QS h))
 ·have C:i<vs.length:=by
   unfold start at g;by_cases C:i<vs.length
   ·exact C
   ·rw[Q0 (by simpa using C),List.getElem?_replicate]at g
    split at g<;>cases g
  have ha:vs[i]?=some v:=by
   unfold start at g;rw[QJ (by simpa using C),Qx]at g;cases e:vs[i]? with
   |none=>simp_all
   |some a=>simp_all
  obtain⟨u,G,rv⟩:=r.get ha;have t:ps[i]?=some y:=by
   rw[<-S.pre,List.getElem?_take_of_lt (by omega)];exact B
  have m:ps.Nodup:=by rw[<-S.pre];exact S.nd.sublist (List.take_sublist _ _)
  refine⟨u,rv,?_⟩;rcases S.par y (Qj t)with k|k
  ·exact .inl ⟨k,ZcC m t G k⟩
  ·obtain⟨c,e⟩:=ZdU (n:=s.heap.objs.size+1) k
   refine .inr ⟨.inl k,c,e,?_⟩;have q:=x.cell y c e;rw[ZcE m t G (by show scope.names.lookup y≠_;rw[k];decide)]at q;exact q
 ·exact e0.hok.fresh (Vf (x.above y c (QS h)))
 ·unfold start
  show _=N.length;rw[Qk,Qq,List.length_replicate];omega
theorem ZdN{CX}{P}{w}{K:PySem.W.Frag}{mg:Str->Option _}{base}{k}{f}{name qual}{params}{body:List _}{scope}{dV kV doc pm cdv ct oc}{an od:Option _}
  {osl:Array (Option Value)}{N ps:List _}{sp:Sp}(lk:K.lookup f=some ⟨oc,od,.func (PySem.W.fnOf name qual params body scope dV kV doc pm an cdv ct),osl⟩)(hcd:PySem.W.codeIn K cdv qual=true)(S:Zm N ps scope)
  (len:∀vs H Q E,sp vs H Q E->vs.length=ps.length)
  (hbody:∀(A:Around)(outer:List _)(s:Shared)(H:Hp)(vs:List V)(Q:VK)(E:XK),Room k (A.deeper (envOfC qual scope s.heap.objs.size f cdv))->sp vs H Q E->
   ∃t,PSs (Yg CX P w K mg base N qual scope f cdv A outer s H E) body t/\t {nx:=fun _ H'=>Q .non H',rt:=Q} (start N vs) H):
  FnOk P w K mg base CX (k+1) f (PySem.W.fnOf name qual params body scope dV kV doc pm an cdv ct) ps sp:=by
 refine⟨len,fun A outer s H _ M vs Q E m g F r d=>?_⟩;have B:=g.mod.kin.keeps fun b o e=>(g.bs b o e).1;have a:∀y∈ps.zip M,scope.names.lookup y.1=some _\/(scope.names.lookup y.1=some _/\((cellsFrom (s.heap.objs.size+1) _ []).lookup y.1).isSome=true):=fun⟨n,v⟩ I=>by
  rcases S.par n (List.of_mem_zip I).1 with q|q
  ·exact .inl q
  ·exact .inr ⟨q,PySem.W.cellsFrom_some _ _ _ (.inl q)⟩
 refine codeAny_call_function m.depth (B _ _ lk) rfl S.co S.gen rfl (PySem.W.codeRec_of B hcd) (F _ _ _ _ (wpAny_newFunctionEnv_cells S.kind a fun _ L z x=>?_));subst L;refine⟨(g.mod.nolimit.keeps fun b o e=>(g.bs b o e).1).keeps x.toInCall.keep,codeAny_func ?_⟩;obtain⟨t,C,D⟩:=hbody A outer s H vs Q E (m.deeper _) d;refine Q2 (C [] z (start N vs) H _ (show Inv (Yg CX P w K mg base N qual scope f cdv A outer s H E) [] (start N vs) H z from Zge S m.hd g (len _ _ _ _ d) r x) D) (fun G p c=>?_) fun e p c=>c;have h:∀{i:St}{H':Hp}{v:V}{u:Value},Inv (Yg CX P w K mg base N qual scope f cdv A outer s H E) [] i H' p->RelV v u->Q v H'->CE outer P w H s Q u p:=
  fun{i H' v u} J j q=>⟨v,H',J.os,J.bare,J.base,J.hok,j,q⟩
 cases G with
 |ret u=>
  obtain⟨v,i,H',J,j,q⟩:=c;exact h J j q
 |next=>
  obtain⟨i,H',J,q⟩:=c;exact h (v:=V.non) (u:=Value.none) J rfl q
 |brk=>
  obtain⟨_,_,_,q⟩:=c;exact False.elim q
 |_=>
  obtain⟨_,_,_,q⟩:=c;exact False.elim q
section
variable{X:Cx}{x:Str}{p pos:Pos}{e:Expr}{es:List Expr}{t:TA}{id T:String}{r:List V->Hp->VK->Prop}
def tCB(r:List V->Hp->VK->Prop)(t:TA):TE:=fun σ H Q=>t σ H fun vs H1=>r vs H1 Q
theorem Zo(hc:CallR X (.builtin id) r)(hg:Gl X x)(hm:X.mg x=none)(hv:bootBuiltins x=some (.builtin id))(ha:PA X (e::es) t)(hn:x≠"__name__":=by decide)(hdb:(x==("__debug__":Str))=false:=by decide)
  (he:starEach (e::es) X.env=(false,eval e X.env)::starEach es X.env:=by rfl)(hpl:(backTo pos (starEach es X.env)).any (·.1)=false:=by rfl):PE X (.Call (.Name x p) (e::es) [] pos) (tCB r t):=fun a s σ H Q I h=>Up (Jq I hg hm hv (PyProof.Rows.callWith_builtin1 (thn (ha pos a s σ H _ I h) fun j b⟨f,g,d,c,i⟩=>hc _ b σ g f j Q d c i) he hpl) hn hdb)
theorem Z8(hc:CallR X (.type T) r)(hg:Gl X x)(hm:X.mg x=none)(hv:bootBuiltins x=some (.type T))(ha:PA X (e::es) t)(hn:x≠"__name__":=by decide)(hdb:(x==("__debug__":Str))=false:=by decide)
  (he:starEach (e::es) X.env=(false,eval e X.env)::starEach es X.env:=by rfl)(hpl:(backTo pos (starEach es X.env)).any (·.1)=false:=by rfl):PE X (.Call (.Name x p) (e::es) [] pos) (tCB r t):=fun a s σ H Q I h=>Up (Jq I hg hm hv (UT (thn (ha pos a s σ H _ I h) fun j b⟨f,g,d,c,i⟩=>hc _ b σ g f j Q d c i) he hpl) hn hdb)
end
end L2

namespace HT
open PySem PyProof.Rows
section
open PySem.SeqAt
open PySem.AutoSeq1 (wpAny_loadPart')
open PySem.MeetsSeq PySem.MeetsSeq2 PySem.MeetsSeq3
end
section
variable{prog:Program}{w:World}{A:Around}{E:Value->Shared->Prop}{s:Shared}
def sIx(n d:Nat):Option Int->Nat
 |none=>d
 |some v=>if v<0 then(v+n).toNat else min v.toNat n
theorem sIx_none(n d:Nat):sIx n d none=d:=rfl
theorem sIx_nat(n d k:Nat):sIx n d (some k)=min k n:=by
 show(if k<0 then(k+(n:Int)).toNat else min _ n)=min k n
 simp_all
end
end HT
namespace L2
open PySem PySem.Spec PyProof.Rows
abbrev TO:=St->Hp->(Option Int->Hp->Prop)->Prop
def PO(X:Cx)(e:Option Expr)(t:TO):Prop:=
 ∀(pins)(s)(σ:St)(H)(Q),Inv X pins σ H s->t σ H Q->
  wpAny (model X.prog X.w) X.A (evalPart e X.env) (fun u s'=>∃o H',Inv X pins σ H' s'/\IsPart u o/\Q o H') X.xe s
def tNoPart:TO:=fun _ H Q=>Q none H
def Zlg(t:TE):TO:=fun σ H Q=>t σ H fun x H1=>∃i,x= .int i/\Q (some i) H1
section
variable{X:Cx}{e:Expr}{te:TE}{lo hi:Option Expr}{tl th:TO}{pos p2:Pos}
theorem ZcR:PO X none tNoPart:=fun _ s σ H Q I h=>Qg ⟨none,H,I,.none,h⟩
theorem ZcQ(h:PE X e te):PO X (some e) (Zlg te):=by
 refine fun a s σ H Q I c=>thn (h a s σ H _ I c) fun u _ xq1=>?_;obtain⟨x,g,b,f,d⟩:=xq1;obtain⟨i,rfl,q⟩:=d;obtain⟨t,rfl⟩:=f;exact⟨_,g,b,.int i t,q⟩
def SlR(X:Cx)(r:V->Option Int->Option Int->Hp->VK->Prop):Prop:=
 ∀(pins)(s)(σ:St)(H)(x)(v vl vu)(lo hi)(sl)(Q),Inv X pins σ H s->RelV x v->s.heap.IsSliceOf sl vl vu .none->IsPart vl lo->IsPart vu hi->r x lo hi H Q->
  ∃T id,typeLookup (.type T) "__getitem__"=pure (some (.builtin id))/\s.TypeIs v T/\wpAny (model X.prog X.w) X.A (getItem v (.ref sl)) (EP X pins σ Q) X.xe s
def tSl(r:V->Option Int->Option Int->Hp->VK->Prop)(te:TE)(tl th:TO):TE:=fun σ H Q=>te σ H fun x H1=>tl σ H1 fun l H2=>th σ H2 fun u H3=>r x l u H3 Q
theorem Zb5{r}(hr:SlR X r)(he:PE X e te)(hl:PO X lo tl)(hu:PO X hi th):PE X (.Subscript e (.Slice lo hi none p2) pos) (tSl r te tl th):=by
 refine fun a s σ H Q I h=>Subscript_ (thn (he a s σ H _ I h) fun v i⟨x,f,j,p,g⟩=>wpAny_Slice (thn (hl a i σ f _ j g) fun y A⟨l,d,D,m,k⟩=>thn (hu a A σ d _ D k) fun o _⟨u,c,t,n,z⟩=>(Qg ?_)));obtain⟨T,id,B,w,C⟩:=hr _ _ σ c x v y o l u _ Q (show Inv X _ σ c _ from t.kept fun b _ q=>Qc _ q) p (Heap.IsSliceOf.new ..) m n z;exact tail_any w B C (by with_unfolding_all rfl)
def Zdk(xs:List V)(lo hi:Option Int):List V:=(xs.drop (HT.sIx xs.length 0 lo)).take (HT.sIx xs.length xs.length hi-HT.sIx xs.length 0 lo)
theorem ZdR(xs)(lo hi):(Zdk xs lo hi).length<=xs.length:=by
 unfold Zdk
 (simp;omega)
theorem Vals.nil_iff{xs}{us}(r:Vals xs us):us=[]↔xs=[]:=by
 cases r with
 |nil=>simp
 |_ _ _=>simp
end
def ixN(n:Nat)(i:Int):Option Nat:=if 0<=i then(if i<n then some i.toNat else none)else if-n<=i then some (i+n).toNat else none
def atI{α:Type}(xs:List α)(i:Int):Option α:=(ixN xs.length i).bind fun j=>xs[j]?
theorem Zfp{n}{i}{j}(h:ixN n i=some j):seqIndex? i n=some j/\j<n/\ -n<=i/\i<n:=by
 unfold ixN at h;by_cases b:0<=i
 ·rw[if_pos b]at h
  by_cases a:i<n
  ·rw[if_pos a]at h
   have e:=Option.some.inj h;exact⟨by rw[seqIndex_of b a,e],by omega,by omega,a⟩
  ·simp_all
 ·rw[if_neg b]at h
  by_cases a: -n<=i
  ·rw[if_pos a]at h
   have e:=Option.some.inj h;exact⟨by rw[seqIndex_neg (by omega) a,e],by omega,a,by omega⟩
  ·simp_all
theorem Zf9{α}{xs}{i}{v:α}(h:atI xs i=some v):∃j,seqIndex? i xs.length=some j/\xs[j]?=some v/\j<xs.length/\ -(xs.length:Int)<=i/\i<xs.length:=by
 unfold atI at h;cases e:ixN xs.length i with
 |none=>simp_all
 |some j=>
  rw[e]at h;obtain⟨_,_,_,_⟩:=Zfp e
  simp_all
theorem Zv{α}{xs}{j:Nat}{v:α}(h:xs[j]?=some v):atI xs j=some v:=by
 have _:=(Qd.mp h).1;have e:ixN xs.length j=some j:=by
  unfold ixN
  simp_all
 unfold atI;rw[e];exact h
theorem Za6{α}(xs)(v:α):atI (xs++[v]) (-1)=some v:=by
 have e:ixN (xs++[v]).length (-1)=some xs.length:=by
  unfold ixN
  (simp;omega)
 unfold atI;rw[e];simp
def Zjm(b:Expr):Prop:=∀o i,subscripted b false o i=operate [o,i] (getItem o i)
def IxR(X:Cx)(r:R2):Prop:=
 ∀(value slice)(pins)(s)(σ:St)(H)(x y)(v u)(Q),Inv X pins σ H s->RelV x v->RelV y u->r x y H Q->
  subscripted slice false v u=operate [v,u] (getItem v u)->wpAny (model X.prog X.w) X.A (subscriptTail value slice v u) (EP X pins σ Q) X.xe s
def MtR(X:Cx)(id:String)(r:V->List V->Hp->VK->Prop):Prop:=
 ∀(pins)(s)(σ:St)(H)(x)(xs)(v)(us)(Q),Inv X pins σ H s->RelV x v->Vals xs us->r x xs H Q->
  wpAny (model X.prog X.w) X.A (call (.builtin id) (v::us)) (EP X pins σ Q) X.xe s
section
variable{X:Cx}{a b:Expr}{ta tb:TE}{pos:Pos}
theorem Zk{r}(hr:IxR X r)(ha:PE X a ta)(hb:PE X b tb)(hs:Zjm b):PE X (.Subscript a b pos) (tOp r ta tb):=fun _ s σ H Q I h=>Subscript_ (ZkV ha hb I h fun v u d x y g e f c q=>hr a b _ d σ g x y v u Q e f c q (hs _ _))
inductive ZnE(K:PySem.W.Frag)(x:V)(y:V)(H:Hp)(Q:VK):Prop
 |mk (p xs i v:_) (_:x= .ref p) (_:y= .int i) (_:SqL K H p xs) (_:atI xs i=some v) (_:Q v H)
inductive ZfP(K:PySem.W.Frag)(x:V)(y:V)(H:Hp)(Q:VK):Prop
 |mk (p xs i v:_) (_:x= .ref p) (_:y= .int i) (_:SqT K H p xs) (_:atI xs i=some v) (_:Q v H)
theorem Zz:IxR X (ZnE X.K):=by
 intro _ _ _ s σ H x y v u Q I l m h g;obtain⟨p,_,i,z,rfl,rfl,C,A,q⟩:=h;cases l;obtain⟨t,rfl⟩:=m;obtain⟨c,r,b,_⟩:=I.list C;obtain⟨j,f,k,_,o,B⟩:=Zf9 A;obtain⟨w,_,d⟩:=r.get k;have _:=r.length;have _:=ZbF;have a:EP X _ σ Q w s:=⟨z,H,I,d,q⟩;by_cases e:0<=i
 ·have n:i.toNat=j:=by
   rw[seqIndex_of e B]at f
   grind
  exact item_listR b.isList e (by omega) (by simp_all) a g
 ·have n:(i+c.toArray.size).toNat=j:=by
   rw[seqIndex_neg (by omega) o]at f
   simp_all
  exact subscriptTail_builtinR b.isList.typeIs slot_list_getitem.lookup
   (wpAny_getItem_list_neg b.isList (by omega) (by simp_all) (by omega) (by simp_all) ⟨rfl,a⟩) g
theorem Zj:IxR X (ZfP X.K):=by
 intro _ _ a s σ H x y v u Q I k d h l;obtain⟨p,_,i,z,rfl,rfl,g,e,q⟩:=h;cases k;obtain⟨t,rfl⟩:=d;obtain⟨_,r,c,_⟩:=I.tuple g;obtain⟨j,_,m,_,_,_⟩:=Zf9 e;obtain⟨w,f,b⟩:=r.get m;have _:=r.length;have _:=ZbF;exact subscriptTail_builtinR c.typeIs slot_tuple_getitem.lookup
  (getItem_tuple (j:=j) c (by omega) (by omega) (by simp_all) (by simpa using f) ⟨rfl,(show EP X a σ Q w s from⟨z,H,I,b,q⟩)⟩) l
theorem Ze5(its:List _)(n j)(u):Obj.mapSeq (·.setIfInBounds j u) {cls:= .type "list",data:= .seq its.toArray n}={cls:= .type "list",data:= .seq (its.set j u).toArray n}:=by
 simp[Obj.mapSeq]
theorem Inv.lst{pins}{σ:St}{H}{s}{p}{xs}(I:Inv X pins σ H s)(h:H p=some (.lst xs)):
  ∃(its:List _)(n:Nat),Vals xs its/\s.heap.get? p=some {cls:= .type "list",data:= .seq its.toArray n}/\xs.length<=sizeLine:=by
 obtain⟨z,its,n,r,e⟩:=I.hok p _ h
 simp_all
theorem Inv.lstUpd{pins}{σ:St}{H}{s}{p:Addr}{xs ys:List V}{its its':List _}{n n':Nat}{f:Obj->Obj}(I:Inv X pins σ H s)(h:H p=some (.lst xs))
  (ho:s.heap.get? p=some {cls:= .type "list",data:= .seq its.toArray n})(hf:f {cls:= .type "list",data:= .seq its.toArray n}={cls:= .type "list",data:= .seq its'.toArray n'})(r:Vals ys its')(hz:ys.length<=sizeLine)(t:Nat):
  Inv X pins σ (upd H p (.lst ys)) {s with heap:=s.heap.update p f,toks:=t}:=by
 have e:(s.heap.update p f).get? p=some {cls:= .type "list",data:= .seq its'.toArray n'}:=by
  rw[Uh f ho (by rw[hf]<;>rfl),hf]
 refine I.write (by rw[h];trivial) (.inl rfl) (fun b u a q=>(QV _ _ (Ne.symm a)).trans q) ⟨_,e⟩ ?_;exact⟨hz,_,n',r,e⟩
def rSetL:V->V->V->Hp->(Hp->Prop)->Prop:=fun o i v H Q=>∃p xs k j,o= .ref p/\i= .int k/\H p=some (.lst xs)/\ixN xs.length k=some j/\Q (upd H p (.lst (xs.set j v)))
theorem set_list:Zjn X rSetL:=by
 intro _ s σ H o i v _ _ u Q I y x z h;obtain⟨p,_,k,j,rfl,rfl,e,m,q⟩:=h;cases y;obtain⟨t,rfl⟩:=x;obtain⟨b,n,r,c,_⟩:=I.lst e;obtain⟨g,_,A,w⟩:=Zfp m;have _:=r.length;have _:=ZbF;have l:=
  I.lstUpd e c (Ze5 b n j u) (r.set z j) (by simp_all) s.toks
 by_cases f:0<=k
 ·have d:k.toNat=j:=by
   rw[seqIndex_of f w]at g
   simp_all
  exact PySem.W.ki_setAt c f (by omega) (by simp_all) (by rw[d];exact⟨_,l,q⟩)
 ·have d:(k+b.toArray.size).toNat=j:=by
   rw[seqIndex_neg (by omega) A]at g
   simp_all
  exact PySem.W.ki_setBack c (by omega) (by simp_all) (by omega) (by rw[d];exact⟨_,l,q⟩)
theorem ZcK(lo hi)(n):(sliceBounds lo hi none n).1=((HT.sIx n 0 lo:Nat))/\(sliceBounds lo hi none n).2.1=((HT.sIx n n hi:Nat))/\(sliceBounds lo hi none n).2.2=1:=by
 refine⟨?_,?_,rfl⟩
 ·cases lo with
  |none=>simp[sliceBounds,HT.sIx]
  |some i=>
   simp[sliceBounds,HT.sIx,Option.getD_none,show 1>0 by decide,if_true]
   grind
 ·cases hi with
  |none=>simp[sliceBounds,HT.sIx]
  |some i=>
   simp[sliceBounds,HT.sIx,Option.getD_none,show 1>0 by decide,if_true]
   grind
theorem Zcc(its:List _)(lo hi:Option _):slicePick its.toArray lo hi none=((its.drop (HT.sIx its.length 0 lo)).take (HT.sIx its.length its.length hi-HT.sIx its.length 0 lo)).toArray:=by
 obtain⟨a,c,b⟩:=ZcK lo hi _;unfold slicePick;rw[a,c,b];simp only[sliceRange_one,pick_run,QA]<;>rfl
inductive ZnB(K:PySem.W.Frag)(x:V)(lo:Option Int)(hi:Option Int)(H:Hp)(Q:VK):Prop
 |mk (a xs:_) (_:x= .ref a) (_:SqL K H a xs) (_:∀p,H p=none->Q (.ref p) (upd H p (.lst (Zdk xs lo hi))))
theorem ZcL:SlR X (ZnB X.K):=by
 intro _ s σ H x v _ _ lo e _ Q I m l j i h;obtain⟨a,d,rfl,k,q⟩:=h;cases m;obtain⟨_,r,f,n⟩:=I.list k;have c:=r.length;refine⟨_,_,slot_list_getitem.lookup,f.isList.typeIs,wpAny_getItem_list_slice f.isList l j i .none (by simp) ?_ (by simp_all)⟩;rw[Zcc,<-c];refine⟨.ref s.heap.objs.size,_,I.laid (fun b _ q=>Qc _ q) (Qe _) ?_,rfl,q _ (I.hok.fresh (Qe _))⟩;exact⟨QM (ZdR d lo e) n,_,0,(r.drop (HT.sIx d.length 0 lo)).take (HT.sIx d.length d.length e-HT.sIx d.length 0 lo),Ql _ rfl⟩
def JQ:V->Bool
 | .non=>true
 | .bl _=>true
 | .int _=>true
 | .str _=>true
 |_=>false
def eqV:V->V->Bool
 | .non,.non=>true
 | .bl a,.bl b=>a==b
 | .bl a,.int b=>(if a then 1 else 0)==b
 | .int a,.bl b=>a==(if b then 1 else 0)
 | .int a,.int b=>a==b
 | .str a,.str b=>a==b
 |_,_=>false
theorem ZkQ{A}{s}{y x}{u v}(ry:RelV y u)(rx:RelV x v)(fy:JQ y=true)(fx:JQ x=true):SeqAt.EqAt A s u v (eqV y x):=by
 cases y with
 |non=>
  cases ry
  cases x with
  |non=>cases rx;exact SeqAt.EqAt.same _
  |bl b=>cases rx;exact SeqAt.EqAt.none_bool b
  |int b=>obtain⟨t,rfl⟩:=rx;exact SeqAt.EqAt.none_int b t
  |str b=>obtain⟨t,rfl⟩:=rx;exact SeqAt.EqAt.none_str b t
  |_=>exact absurd fx QI
 |bl a=>
  cases ry
  cases x with
  |non=>cases rx;exact SeqAt.EqAt.bool_none a
  |bl b=>cases rx;exact SeqAt.EqAt.bool_bool a b
  |int b=>obtain⟨t,rfl⟩:=rx;exact SeqAt.EqAt.bool_int a b t
  |str b=>obtain⟨t,rfl⟩:=rx;exact SeqAt.EqAt.bool_str a b t
  |_=>exact absurd fx QI
 |int a=>
  obtain⟨d,rfl⟩:=ry;cases x with
  |non=>cases rx;exact SeqAt.EqAt.int_none a d
  |bl b=>cases rx;exact SeqAt.EqAt.int_bool a d b
  |int b=>obtain⟨t,rfl⟩:=rx;exact SeqAt.EqAt.int_int a d b t
  |str b=>obtain⟨t,rfl⟩:=rx;exact SeqAt.EqAt.int_str a d b t
  |_=>exact absurd fx QI
 |str a=>
  obtain⟨d,rfl⟩:=ry;cases x with
  |non=>cases rx;exact SeqAt.EqAt.str_none a d
  |bl b=>cases rx;exact SeqAt.EqAt.str_bool a d b
  |int b=>obtain⟨t,rfl⟩:=rx;exact SeqAt.EqAt.str_int a d b t
  |str b=>obtain⟨t,rfl⟩:=rx;exact SeqAt.EqAt.str_str a d b t
  |_=>exact absurd fx QI
 |_=>exact absurd fy QI
def eqU(x:V)(u:Value):Bool:=match u with
 | .none=>eqV .non x
 | .bool b=>eqV (.bl b) x
 | .int i _=>eqV (.int i) x
 | .str z _=>eqV (.str z) x
 |_=>false
theorem ZhE{x y}{u}(r:RelV y u)(f:JQ y=true):eqU x u=eqV y x:=by
 cases y with
 |non=>cases r;rfl
 |bl b=>cases r;rfl
 |int i=>obtain⟨t,rfl⟩:=r;rfl
 |str z=>obtain⟨t,rfl⟩:=r;rfl
 |_=>exact absurd f QI
theorem Za7{x}:∀{xs}{us},Vals xs us->xs.all JQ=true->us.any (eqU x)=xs.any fun y=>eqV y x
 |_,_,.nil,_=>rfl
 |y::xs,u::us,.cons r t,f=>by
  rw[List.all_cons,Ux]at f;rw[List.any_cons,List.any_cons,ZhE r f.1,Za7 t f.2]
theorem J9{A}{s}{x}{v}(rx:RelV x v)(fx:JQ x=true):∀{xs}{us},Vals xs us->xs.all JQ=true->∀u∈us,SeqAt.EqAt A s u v (eqU x u)
 |_,_,.nil,_=>fun u a=>by cases a
 |y::xs,u::us,.cons r t,f=>fun b a=>by
  rw[List.all_cons,Ux]at f;rcases Qn.mp a with rfl|a
  ·rw[ZhE r f.1];exact ZkQ r rx f.1 fx
  ·exact J9 rx fx t f.2 b a
def inV(x:V)(xs:List V):Bool:=xs.any fun y=>eqV y x
inductive rIn(K:PySem.W.Frag)(neg:Bool)(x:V)(y:V)(H:Hp)(Q:VK):Prop
 |mk (p xs:_) (_:y= .ref p) (_:(SqL K H p xs\/SqT K H p xs)) (_:JQ x=true) (_:xs.all JQ=true) (_:Q (.bl (if neg then !inV x xs else inV x xs)) H)
theorem JJ:OpR X (compareOp .In) (rIn X.K false):=by
 intro _ s σ H x y v u Q I g j h;obtain⟨p,_,rfl,c,i,d,q⟩:=h;cases j;rcases c with c|c
 ·obtain⟨a,r,f,l⟩:=I.list c
  refine SeqAt.in_listAt _ f.isList (fun w e=>J9 g i r d w (by simpa using e)) ⟨.bl _,H,I,rfl,?_⟩;rw[show a.toArray.any _=a.any (eqU x) by simp,Za7 r d];exact q
 ·obtain⟨a,r,f,l⟩:=I.tuple c
  refine SeqAt.in_tupleAt _ f (fun w e=>J9 g i r d w (by simpa using e)) ⟨.bl _,H,I,rfl,?_⟩;rw[show a.toArray.any _=a.any (eqU x) by simp,Za7 r d];exact q
theorem Zat:OpR X (compareOp .NotIn) (rIn X.K true):=by
 intro _ s σ H x y v u Q I g j h;obtain⟨p,_,rfl,c,i,d,q⟩:=h;cases j;rcases c with c|c
 ·obtain⟨a,r,f,l⟩:=I.list c
  refine SeqAt.notIn_listAt _ f.isList (fun w e=>J9 g i r d w (by simpa using e)) ⟨.bl _,H,I,rfl,?_⟩;rw[show a.toArray.any _=a.any (eqU x) by simp,Za7 r d];exact q
 ·obtain⟨a,r,f,l⟩:=I.tuple c
  refine SeqAt.notIn_tupleAt _ f (fun w e=>J9 g i r d w (by simpa using e)) ⟨.bl _,H,I,rfl,?_⟩;rw[show a.toArray.any _=a.any (eqU x) by simp,Za7 r d];exact q
theorem Zr:CallR X (.builtin "len") (fun xs H Q=>∃p ys,xs=[.ref p]/\(SqL X.K H p ys\/SqT X.K H p ys)/\Q (.int ys.length) H):=by
 intro _ s σ H xs _ Q I r h;obtain⟨p,ys,rfl,b,q⟩:=h;obtain⟨u,rfl,g⟩:=vals1 r;cases g;have _:=ZbF;rcases b with b|b
 ·obtain⟨d,c,e,f⟩:=I.list b
  have a:=c.length;exact Calls.call_len_list e.isList (by simp[QA]<;>omega) ⟨.int ys.length,H,I.tok _,⟨s.toks+1,by grind⟩,q⟩
 ·obtain⟨d,c,e,f⟩:=I.tuple b
  have a:=c.length;exact len_tuple e (by simp[QA]<;>omega) ⟨.int ys.length,H,I.tok _,⟨s.toks+1,by grind⟩,q⟩
theorem Jv:CallR X (.type "list") (fun xs H Q=>∃p ys,xs=[.ref p]/\(SqL X.K H p ys\/SqT X.K H p ys)/\∀l,H l=none->Q (.ref l) (upd H l (.lst ys))):=by
 intro _ s σ H xs _ Q I r h;obtain⟨p,ys,rfl,j,q⟩:=h;obtain⟨u,rfl,B⟩:=vals1 r;cases B;have t:∀(a),Vals ys _->ys.length<=sizeLine->∀(c)(g),(∀b A,s.heap.get? b=some A->c.get? b=some A)->
   c.get? s.heap.objs.size=some _->EP X _ σ Q _ {s with heap:=c}:=fun a f k c g m e=>
  ⟨.ref s.heap.objs.size,_,I.laid (t':=s.toks) m (Qe _) (show ObjOk X.prog X.w _ c _ (.lst ys)from⟨k,a,g,f,e⟩),rfl,q _ (I.hok.fresh (Qe _))⟩
 rcases j with j|j
 ·obtain⟨a,f,v,k⟩:=I.list j
  have i:=f.length;obtain⟨o,y,x,n,z⟩:=v.isList;exact call_list_seq p (.inl rfl) y x z (fun c g m e=>t a f k c g m e) (by grind)
 ·obtain⟨a,f,v,k⟩:=I.tuple j
  have i:=f.length;obtain⟨o,y,x,n,z⟩:=v;exact call_list_seq p (.inr rfl) y x z (fun c g m e=>t a f k c g m e) (by grind)
theorem call_tuple_of:CallR X (.type "tuple") (fun xs H Q=>∃p ys,xs=[.ref p]/\((SqL X.K H p ys/\∀l,H l=none->Q (.ref l) (upd H l (.tup ys)))\/(SqT X.K H p ys/\Q (.ref p) H))):=by
 intro _ s σ H xs _ Q I r h;obtain⟨p,ys,rfl,h⟩:=h;obtain⟨u,rfl,m⟩:=vals1 r;cases m;rcases h with⟨d,q⟩|⟨d,q⟩
 ·obtain⟨a,c,f,j⟩:=I.list d
  have _:=c.length;refine call_tuple_list f.isList (fun i k=>?_) (by grind);have g:=I.kept (t':=s.toks) k;exact⟨.ref i.objs.size,_,(show Inv X _ σ (upd H i.objs.size (.tup ys)) _ from g.laid (fun b o e=>Qc _ e) (Qe _) ⟨j,a,c,IsTup.new _ _⟩),rfl,q _ (g.hok.fresh (Qe _))⟩
 ·obtain⟨a,c,f,j⟩:=I.tuple d
  exact call_tuple_same f ⟨.ref p,H,I,rfl,q⟩
def tyV(K:PySem.W.Frag)(T:String)(x:V)(H:Hp):Prop:=match x with
 | .str _=>T="str"
 | .int _=>T="int"
 | .ref p=>(T="list"/\∃xs,SqL K H p xs)\/(T="tuple"/\∃o,K.lookup p=some o/\o.cls= .type "tuple"/\o.dict=none)\/
   (T="dict"/\((∃kvs,H p=some (.dK kvs))\/∃kvs,H p=some (.dT kvs)))\/(T="set"/\∃S n,H p=some (.set S n))
 |_=>False
theorem Zg4{pins}{σ:St}{H}{s}{T}{x}{v}(I:Inv X pins σ H s)(r:RelV x v)(ty:tyV X.K T x H):
  s.TypeIs v T/\∀a,v= .ref a->∃ob,s.heap.get? a=some ob/\ob.dict=none:=by
 cases x with
 |str z=>
  obtain⟨t,rfl⟩:=r;cases ty;exact⟨typeIs_str s z t,fun _ e=>nomatch e⟩
 |int i=>
  obtain⟨t,rfl⟩:=r;cases ty;exact⟨typeIs_int s i t,fun _ e=>nomatch e⟩
 |ref p=>
  cases r
  rcases ty with⟨rfl,_,l⟩|⟨rfl,o,b,k,g⟩|⟨rfl,b⟩|⟨rfl,S,n,b⟩
  ·obtain⟨_,_,j,_⟩:=I.list l
   refine⟨j.isList.typeIs,fun a e=>?_⟩;cases e;obtain⟨o,n,e,c,g,_⟩:=j;exact⟨o,e,g⟩
  ·refine⟨⟨o,I.kIn p o b,k⟩,fun a e=>?_⟩
   cases e
   exact⟨o,I.kIn _ o b,g⟩
  ·have z:∃o,s.heap.get? p=some o/\o.ExactDict:=by
    rcases b with⟨f,b⟩|⟨f,b⟩
    ·obtain⟨_,_,_,_,o,_,_,e,d,_⟩:=I.hok p _ b
     exact⟨o,e,d⟩
    ·obtain⟨_,_,_,_,o,_,_,e,d,_⟩:=I.hok p _ b
     exact⟨o,e,d⟩
   obtain⟨o,e,d⟩:=z;refine⟨⟨o,e,d.1⟩,fun a h=>?_⟩;cases h;exact⟨o,e,d.2.1⟩
  ·obtain⟨o,_,_,_,e,d,_⟩:=I.hok p _ b
   refine⟨⟨o,e,d.1⟩,fun a h=>?_⟩;cases h;exact⟨o,e,d.2.1⟩
 |_=>exact False.elim ty
def Znp(K:PySem.W.Frag)(T:String)(r:V->List V->Hp->VK->Prop)(to:TE):TE:=fun σ H Q=>to σ H fun x H1=>tyV K T x H1/\r x [] H1 Q
def tBM(K:PySem.W.Frag)(T:String)(r:V->List V->Hp->VK->Prop)(to:TE)(t:TA):TE:=fun σ H Q=>to σ H fun x H1=>tyV K T x H1/\t σ H1 fun xs H2=>r x xs H2 Q
variable{o e:Expr}{es:List Expr}{to:TE}{t:TA}{name:Str}{apos cpos:Pos}{T id:String}{r:V->List V->Hp->VK->Prop}
theorem ZgW(pa:PlainAttrs T)(slot:Slot T name id)(hty:typeOf (.builtin id)=pure (.type "method_descriptor"))(hm:MtR X id r)(ho:PE X o to)
  (hbase:attributeBase o name X.env (eval o X.env)=eval o X.env:=by rfl)(hline:(apos.endLine==cpos.line)=true:=by rfl):PE X (.Call (.Attribute o name apos) [] [] cpos) (Znp X.K T r to):=by
 refine fun a s σ H Q I h=>wpAny_Call_method0_late hbase hline (thn (ho a s σ H _ I h) fun v d xq1=>?_);obtain⟨x,g,b,c,f,i⟩:=xq1;obtain⟨e,j⟩:=Zg4 b c f;exact⟨T,id,pa,slot,hty,e,j,Calls.callWith_builtin rfl (PySem.evalArgs_none (hm a d σ g x [] v [] Q b c .nil i))⟩
theorem Y6(pa:PlainAttrs T)(slot:Slot T name id)(hty:typeOf (.builtin id)=pure (.type "method_descriptor"))(hm:MtR X id r)(ho:PE X o to)(ha:PA X (e::es) t)
  (hbase:attributeBase o name X.env (eval o X.env)=eval o X.env:=by rfl)
  (hfew:((backTo cpos (starEach (e::es) X.env)).all (fun x=> !x.1)&&(backToKw cpos (keywordEach [] X.env)).all (fun x=>x.1.isSome)
   &&decide ((e::es).length+([]:List Keyword).length+(if([]:List Keyword).isEmpty then 0 else 1)<30))=true:=by rfl)
  (hline:(apos.endLine==cpos.line)=true:=by rfl) (hs:starEach (e::es) X.env=(false,eval e X.env)::starEach es X.env:=by rfl) (hplain:(backTo cpos (starEach es X.env)).any (·.1)=false:=by rfl):
  PE X (.Call (.Attribute o name apos) (e::es) [] cpos) (tBM X.K T r to t):=by
 refine fun b s σ H Q I h=>wpAny_Call_method_late hbase hfew hline rfl (thn (ho b s σ H _ I h) fun v l xq1=>?_);obtain⟨x,p,c,d,w,q⟩:=xq1;obtain⟨j,z⟩:=Zg4 c d w;refine⟨T,id,pa,slot,hty,j,z,?_⟩;have f:=ha cpos _ l σ p _ c q;rw[hs]at f⊢;exact Calls.callWith_builtin (by show(false||(backTo _ _).any _)=false;rw[hplain]<;>rfl) (Calls.evalArgs_plain (thn f fun u k⟨m,y,n,i,g⟩=>hm _ k σ y x m v u Q n d i g))
end
def MtM(X:Cx)(id:String)(r:V->List V->Hp->VK->Prop):Prop:=
 ∀(pins)(s)(σ:St)(H)(x)(xs)(v)(us)(Q),Inv X pins σ H s->RelV x v->Vals xs us->r x xs H Q->
  wpAny (model X.prog X.w) X.A (call (.builtin id) (v::us)) (EP X pins σ Q) X.xe s
theorem Vals.one:∀{x}{us},Vals [x] us->∃u,us=[u]/\RelV x u
 |_,_,.cons r .nil=>⟨_,rfl,r⟩
theorem Vals.two{x y}{us}(h:Vals [x,y] us):∃u v,us=[u,v]/\RelV x u/\RelV y v:=by cases h with|cons r t=>cases t with|cons q t=>cases t;exact⟨_,_,rfl,r,q⟩
theorem Vals.zero:∀{us},Vals [] us->us=[]
 |_,.nil=>rfl
theorem Vals.dropLast{xs}{us}(h:Vals xs us):Vals xs.dropLast us.dropLast:=by
 induction h with
 |nil=>exact .nil
 |cons r t c=>
  cases t with
  |nil=>exact .nil
  |cons q _=>exact .cons r c
theorem Vals.eraseIdx:∀{xs}{us}(i),Vals xs us->Vals (xs.eraseIdx i) (us.eraseIdx i)
 |_,_,_,.nil=> .nil
 |_,_,0,.cons _ t=>t
 |_,_,i+1,.cons r t=> .cons r (Vals.eraseIdx i t)
theorem Vals.reverse{xs}{us}(h:Vals xs us):Vals xs.reverse us.reverse:=by
 induction h with
 |nil=>exact .nil
 |cons r t c=>rw[List.reverse_cons,List.reverse_cons];exact Vals.append c (.cons r .nil)
theorem Vals.rep{xs}{us}(h:Vals xs us):∀k:Nat,Vals (List.replicate k xs).flatten (List.replicate k us).flatten
 |0=> .nil
 |k+1=>Vals.append h (Vals.rep h k)
theorem ZkP{α:Type}(l:List α):l.eraseIdx (l.length-1)=l.dropLast:=by
 simp
theorem foldl_rep(its):∀(k)(acc:List Value),
  List.foldl (fun x1 x2=>x1++x2) acc.toArray (List.replicate k its.toArray)=(acc++(List.replicate k its).flatten).toArray
 |0,acc=>by simp
 |k+1,acc=>by
  have a:(acc++its)++(List.replicate k its).flatten=acc++(List.replicate (k+1) its).flatten:=by
   grind
  rw[<-a,<-foldl_rep its k (acc++its),<-(show acc.toArray++its.toArray=(acc++its).toArray by simp),List.replicate_succ,List.foldl_cons]
section
variable{X:Cx}{pins:List (Addr×Obj)}{σ:St}{H:Hp}{s:Shared}{l b:Addr}{xs ys zs:List V}
theorem Inv.lset{its its':List _}{n:Nat}{f:Array _->Array _}{t':Nat}(I:Inv X pins σ H s)(hH:H l=some (.lst xs))
  (e:s.heap.get? l=some {cls:= .type "list",data:= .seq its.toArray n})(hf:f its.toArray=its'.toArray)(hv:Vals ys its')(hz:ys.length<=sizeLine):
  Inv X pins σ (upd H l (.lst ys)) {s with heap:=s.heap.update l (Obj.mapSeq f),toks:=t'}:=by
 have q:=PySem.IsL.update e f;rw[hf]at q;refine I.write (by rw[hH];exact trivial) (.inl rfl) (fun _ u a b=>(QV _ _ (Ne.symm a)).trans b) ⟨_,q⟩ ?_;exact⟨hz,_,_,hv,q⟩
theorem Inv.lnew{its}{t'}(I:Inv X pins σ H s)(hv:Vals ys its)(hz:ys.length<=sizeLine):
  Inv X pins σ (upd H s.heap.objs.size (.lst ys)) {s with heap:=s.heap.push {cls:= .type "list",data:= .seq its.toArray},toks:=t'}:=
 I.laid (fun _ _ q=>Qc _ q) (Qe _) ⟨hz,_,0,hv,Ql _ rfl⟩
theorem Inv.fresh(I:Inv X pins σ H s):H s.heap.objs.size=none:=I.hok.fresh (Qe _)
theorem Inv.lstM(I:Inv X pins σ H s)(hH:H l=some (.lst xs)):xs.length<=sizeLine/\∃its n,Vals xs its/\xs.length=its.length/\s.heap.get? l=some {cls:= .type "list",data:= .seq its.toArray n}:=by
 obtain⟨z,its,n,r,e⟩:=I.hok l _ hH;exact⟨z,its,n,r,r.length,e⟩
theorem ZdA{n}(h:n<=sizeLine):Builtin.List.listTooLong n=false:=QX (by omega)
end
section
variable{X:Cx}
inductive rAppend(x:V)(vs:List V)(H:Hp)(Q:VK):Prop
 |mk (l xs y:_) (_:x= .ref l) (_:vs=[y]) (_:H l=some (.lst xs)) (_:xs.length<sizeLine) (_:Q .non (upd H l (.lst (xs++[y]))))
theorem ZC:MtM X "list.append" rAppend:=by
 intro _ s σ H x _ v _ Q I d b h;obtain⟨l,_,y,rfl,rfl,a,_,q⟩:=h;cases d;obtain⟨u,rfl,c⟩:=b.one;obtain⟨z,_,n,r,_,e⟩:=I.lstM a;refine UP F.slot_list_append ⟨_,e,rfl⟩ F.entry_list_append (F.args_list_append_2 _ _) (PySem.list_append l _ n u (by simp_all)) ⟨e,.non,_,I.lset a e (by simp) (r.append (.cons c .nil)) ?_,rfl,q⟩
 grind
inductive rExtend(x:V)(vs:List V)(H:Hp)(Q:VK):Prop
 |mk (l b xs zs:_) (_:x= .ref l) (_:vs=[.ref b]) (_:H l=some (.lst xs)) (_:H b=some (.lst zs)) (_:xs.length+zs.length<=sizeLine) (_:Q .non (upd H l (.lst (xs++zs))))
theorem Zld:MtM X "list.extend" rExtend:=by
 intro _ s σ H x _ v _ Q I p i h;obtain⟨l,b,_,_,rfl,rfl,g,m,_,q⟩:=h;cases p;obtain⟨u,rfl,k⟩:=i.one;cases k;obtain⟨z,d,n,r,_,e⟩:=I.lstM g;obtain⟨_,a,t,o,_,j⟩:=I.lstM m;have f:d.toArray.size+a.toArray.size<=sizeLine:=by simp_all
 have c:¬(!d.toArray.isEmpty&&Builtin.List.listTooLong (d.toArray.size+a.toArray.size))=true:=by
  rw[ZdA f,Bool.and_false]
  simp
 refine UP F.slot_list_extend ⟨_,e,rfl⟩ F.entry_list_extend (F.args_list_extend_2 _ _)
  (AutoSeq1.list_extend_list_list_0 l _ n b _ t c (by omega) (by omega)) ⟨e,j,?_⟩
 refine⟨.non,_,I.lset g e (by simp) (r.append o) ?_,rfl,q⟩
 simp_all
inductive rPop(x:V)(vs:List V)(H:Hp)(Q:VK):Prop
 |mk (l xs y:_) (_:x= .ref l) (_:vs=[]) (_:H l=some (.lst xs)) (_:xs[xs.length-1]?=some y) (_:Q y (upd H l (.lst xs.dropLast)))
theorem Zhg:MtM X "list.pop" rPop:=by
 intro _ s σ H x _ v _ Q I i f h;obtain⟨l,_,y,rfl,rfl,d,g,q⟩:=h;cases i;have c:=f.zero;subst c;obtain⟨z,a,n,r,_,e⟩:=I.lstM d;obtain⟨u,_,j⟩:=r.get g;have b:a.toArray[a.toArray.size-1]?=some u:=by
  simp_all
 refine UP F.slot_list_pop ⟨_,e,rfl⟩ F.entry_list_pop (F.args_list_pop_1 _) (MeetsSeq.list_pop_last l _ n u b (by simp_all)) ⟨e,y,_,I.lset d e ?_ r.dropLast ?_,j,q⟩
 ·simp_all
 ·grind
inductive rCat(x:V)(y:V)(H:Hp)(Q:VK):Prop
 |mk (l b xs zs:_) (_:x= .ref l) (_:y= .ref b) (_:H l=some (.lst xs)) (_:H b=some (.lst zs)) (_:xs.length+zs.length<=sizeLine) (_:∀p,H p=none->Q (.ref p) (upd H p (.lst (xs++zs))))
theorem op_cat:OpR X (binaryOp .Add) rCat:=by
 intro _ s σ H x y v u Q I f d h;obtain⟨l,b,_,_,rfl,rfl,k,j,_,q⟩:=h;cases f;cases d;obtain⟨z,c,n,r,_,e⟩:=I.lstM k;obtain⟨_,a,_,i,_,g⟩:=I.lstM j;refine PySem.P.add_list e g ?_ (by grind);rw[(show c.toArray++a.toArray=(c++a).toArray by simp)];exact⟨.ref _,_,I.lnew (r.append i) (by rw[Qk];omega),rfl,q _ I.fresh⟩
inductive rRep(x:V)(y:V)(H:Hp)(Q:VK):Prop
 |mk (l k xs:_) (_:x= .ref l) (_:y= .int k) (_:H l=some (.lst xs)) (_: -(2^63)<=k) (_:k<2^63) (_:xs.length*k.toNat<=sizeLine) (_:∀p,H p=none->Q (.ref p) (upd H p (.lst (List.replicate k.toNat xs).flatten)))
theorem len_rep{α:Type}(xs:List α)(k):(List.replicate k xs).flatten.length=k*xs.length:=by
 simp_all
theorem Zez:OpR X (binaryOp .Mult) rRep:=by
 intro pins s σ H x y v u Q I rx ry h;obtain⟨l,k,xs,rfl,rfl,hH,h1,h2,hz,q⟩:=h;cases rx;obtain⟨t,rfl⟩:=ry;obtain⟨z,b,n,r,hl,e⟩:=I.lstM hH;have hlen:b.toArray.size*k.toNat<=sizeLine:=by simp_all
 have hcap:¬b.toArray.size*k.toNat>(2^63-1)/8:=by
  have:sizeLine<=(2^63-1)/8:=by decide
  omega
 have f:¬(!Builtin.List.listFitsIndex k)=true:=by
  rw[fitsIndex_both h1 h2]
  grind
 have d:¬Builtin.List.listTooLong (b.toArray.size*k.toNat)=true:=by
  rw[ZdA hlen]
  grind
 have hnew:List.foldl (fun x1 x2=>x1++x2) #[] (List.replicate (if b.toArray.isEmpty=true then 0 else k.toNat) b.toArray)=(List.replicate k.toNat b).flatten.toArray:=by
  have f0:=fun m=>by
   have:=foldl_rep b m [];omega
  rw[f0];cases b with
  |nil=>simp
  |cons a r'=>rfl
 refine wpAny_binaryOp_repeat_ref (by decide) ⟨_,e,rfl⟩ (fun s'=>typeIs_int s' k t) noFill_list_mul F.fills_int_mul UQ repeat_list F.slot_int_index.lookup
  (UP UQ (typeIs_int s k t) F.entry_int_rmul (F.args_int_rmul_2 _ _) (int___rmul___int_list k t l b.toArray n)
   ⟨e,rfl,⟨_,e,rfl⟩,UP F.slot_list_mul ⟨_,e,rfl⟩ F.entry_list_mul (F.args_list_mul_2 _ _) (AutoListH.list___mul___list_int_3 l b.toArray n k t f hcap d) ⟨e,?_⟩⟩)
 rw[hnew];exact⟨.ref _,_,I.lnew (t':=s.toks) (r.rep k.toNat) (by rw[len_rep,Nat.mul_comm];exact hz),rfl,q _ I.fresh⟩
end
end L2
namespace Att
open PySem PySem.W PySem.Calls PyProof.Rows
theorem Zbb{P}{h}:∀(ns)(vs),WellAll P h vs (ns.map WData.int)->IntsAre vs ns:=by
 intro ns
 induction ns with
 |nil=>
  intro vs w;cases w;exact .nil
 |cons n ns e=>
  intro vs w;cases w with
  |cons a b=>
   cases a
   exact .cons _ _ (e _ b)
theorem ZfK{l:OpenLaw}{n}(hn:l.most=some n){P}{h}{args}{vals}
  (hpre:l.row.toRowW.claim.pre args=true)(hwl:WellAll P h vals args):
  ∃a vs ns,vals=[Value.ref a]/\args=[WData.list (ns.map WData.int)]/\h.get? a=some {cls:= .type "list",data:= .seq vs.toArray}/\IntsAre vs ns/\ns.length<=n:=by
 have i:l.pre.holds [] _=true:=(pre_splitW hpre).2;obtain⟨d,r,rfl,j,k⟩:=hasAllW_cons ((pre_splitW hpre).1);obtain rfl:=hasAllW_nil k;obtain⟨xs,rfl,p⟩:=hasW_list j;obtain⟨ns,rfl⟩:=items_int p;have e:ns.length<=n:=by
  unfold OpenLaw.pre at i;have g:(WTm.not (.lt (.lit (.int (n:Int))) (.len (.arg 0)))).holds [] {args:=[.list (ns.map .int)]}=true:=by
   have g:=(holds_andW i).1
   simp_all
  have h5:=condW_of g (w_not (w_lt w_lit (w_len_list (w_arg rfl))))
  simp_all
 cases hwl with
 |cons m w2=>
  cases w2
  cases m with
  |list o b=>exact⟨_,_,ns,rfl,rfl,o,Zbb ns _ b,e⟩
theorem ZfR(l:OpenLaw)(args):l.row.toRowW.claim.post args (.bool true) args=true:=
 postW_of
  (show WShape.has [] _ _=true by first|rfl|decide|omega)
  (w_eq_bool (w_res rfl) w_lit) rfl
theorem attach_call{l:OpenLaw}{n:Nat}{q:Program}{loose:List _}{XP:(Str->Option _)->Heap->Prop}{YP:World->Heap->Prop}{d:DefRec}
  (hn:l.most=some n)(hdf:d.params.defaults=[])
  (call:∀(w:World)(s₀ s₁:Shared)(mg mb:Str->Option _)(fa:Addr)(o:Obj)(pm cd doc:Value)(a:Addr)(vs:List _)(ns:List _),
   Ground q loose [] XP w s₀ mg mb s₁.heap->YP w s₁.heap->
   s₁.heap.get? fa=some o->o.data= .func (docDef d.name d.params d.body d.scope pm cd doc)->s₁.heap.CodeRec cd d.name->mg d.name=some (.ref fa)->
   s₁.heap.get? a=some {cls:= .type "list",data:= .seq vs.toArray}->IntsAre vs ns->ns.length<=n->s₁.gens=#[]->
   codeAny (model l.prog w) callerA (.call (.ref fa) ⟨[.ref a],[]⟩) (fun r s'=>r= .ok (.ret (.bool true))/\OldK s₁.heap s'.heap/\s'.os=s₁.os/\AllBare s'.gens) s₁):
  WalkO q loose XP YP l.row.toRowW d [] (fun f vs=>PySem.call f vs):=by
 intro w s₀ s₁ mg mb G Y fa o pm cd doc t x v A j m k z _ _ _ g _ _ i _;obtain rfl:t= .none:=Dflts.none m hdf;obtain rfl:x= .none:=Dflts.noKw m;obtain⟨a,vs,ns,rfl,rfl,e,b,h⟩:=ZfK hn g i;refine enter_call (UE (call w s₀ s₁ mg mb fa o pm cd doc a vs ns G Y v (fd_plain A) j k e b h z) fun r s' s=>?_);obtain⟨rfl,B,y,u⟩:=s;exact⟨.inl ⟨.bool true,.bool true,[],rfl,fun _=>rfl,.bool true,ZfR l _,fun _=>⟨List.Pairwise.nil,fun _ p=>(nomatch p)⟩⟩,B,y,u⟩
end Att
namespace L2
open PySem PySem.Spec PyProof.Rows
theorem Zcm:∀{vs}{ns},IntsAre vs ns->Vals (ns.map V.int) vs
 |_,_,.nil=> .nil
 |_,_,.cons n t h=> .cons ⟨t,rfl⟩ (Zcm h)
def Zlb(H:Hp):Prop:=∀b,H b=none\/∃o xs,H b=some (.frz o (.lst xs))
theorem Zhn{P}{w}{K:PySem.W.Frag}{mg mb:Str->Option _}{CX}{k}{fa a}{fd}{x}{sp}{s₁:Shared}{vs:List _}{ns:List _}
  (KX:K.In s₁.heap)(hns:s₁.heap.Ns mainGlobals mg)(hb:s₁.heap.Ns builtinsNs mb)(hbb:∀x:Str,x≠"__name__"->mb x=bootBuiltins x) (hlim:s₁.heap.NoLimit) (hg:s₁.gens=#[])
  (ha:s₁.heap.get? a=some {cls:= .type "list",data:= .seq vs.toArray}) (hi:IntsAre vs ns) (hl:ns.length<=sizeLine) (hr:Room k callerA)
  (F:∀base:Heap,K.In base->base.Ns mainGlobals mg->FnOk P w K mg base CX k fa fd [x] sp) (hbind:∀(s:Shared)(u:Value),BindsTo s fd ⟨[u],[]⟩ [(x,u)])
  (hsp:∀H:Hp,Zlb H->SqL K H a (ns.map V.int)->sp [.ref a] H (fun v _=>v= .bl true) fun _ _ _=>False)
  (hCX:∀H e s',CX [] H s₁ (fun _ _ _=>False) e s'->False):
  codeAny (model P w) callerA (.call (.ref fa) ⟨[.ref a],[]⟩) (fun r s'=>r= .ok (.ret (.bool true))/\OldK s₁.heap s'.heap/\s'.os=s₁.os/\AllBare s'.gens) s₁:=by
 have rv:=Zcm hi;have lenV:=hi.length;have i:∀H:Hp,Zlb H->SqL K H a (ns.map V.int)->HOk P w H s₁.heap->(∀b,H b≠none->b=a)->(H a≠none->K.lookup a=none)->
   codeAny (model P w) callerA (.call (.ref fa) ⟨[.ref a],[]⟩) (fun r s'=>r= .ok (.ret (.bool true))/\OldK s₁.heap s'.heap/\s'.os=s₁.os/\AllBare s'.gens) s₁:=by
  intro H hO hS l hA hK;have f:∀{b:Addr}{o:Obj},s₁.heap.get? b=some o->H b=none->(ZdK s₁.heap H).get? b=some o:=fun e n=>Zhx e n;have noA:∀{b:Addr}{o:Obj}{y:Array DictEntry}{A:Nat},s₁.heap.get? b=some o->o.data= .dict y A->H b=none:=fun{b o y A} e d=>by
   grind
  have g:∀{b:Addr}{m:Str->Option Value},s₁.heap.Ns b m->(ZdK s₁.heap H).Ns b m:=fun{b m}⟨o,y,A,e,d,r⟩=>⟨o,y,A,f e (noA e d),d,r⟩;have j:=fun b o e=>f (KX b o e) (by
   grind)
  refine UE ((F _ j (g hns)).run callerA [] s₁ H ⟨[.ref a],[]⟩ [.ref a] [.ref a] _ _ hr (show Env0 P w K mg (ZdK s₁.heap H) callerA [] s₁ H from⟨rfl,(show Mod K mg (ZdK s₁.heap H)from⟨j,g hns,⟨mb,g hb,hbb⟩,let⟨mc,h1,h2⟩:=hlim;⟨mc,g h1,h2⟩⟩),fun b o e=>ZiC e,Nat.le_of_eq (Zgh _ _),trivial,fun b hb=>absurd (show b∈([]:List Addr)from hb) (by simp),l,.of_eq hg⟩) (hbind s₁ (.ref a)) (.cons rfl .nil) (hsp H hO hS)) fun r s' h=>?_;cases r with
  |error e=>exact(hCX H e s' h).elim
  |ok fl=>
   cases fl with
   |next=>exact False.elim h
   |brk=>exact False.elim h
   |cont=>exact False.elim h
   |ret u=>
    obtain⟨v,H',os,t,un,p,r',q⟩:=h;subst q;obtain rfl:u=Value.bool true:=r';refine⟨rfl,OldK.of_keep fun b o e=>?_,os,t⟩;cases q:H b with
    |none=>exact un.keep b o e q (by intro z;exact absurd (show b∈([]:List Addr)from z) (by simp)) (by simp)
    |some u=>
     rcases hO b with z|⟨ob,xs,z⟩
     ·rw[q]at z;cases z
     ·obtain⟨e1,_⟩:=l b _ z
      obtain⟨e2,_⟩:=p b _ (un.frzs b ob _ z);rw[e]at e1;cases e1;exact e2
 cases hk:K.lookup a with
 |some o=>
  have e:=KX a o hk;rw[ha]at e;cases e;refine i (fun _=>none) (fun _=> .inl rfl) (.inr ⟨_,vs.toArray,_,hk,rfl,rfl,rfl,by simp_all,by simpa using rv⟩) (fun b u z=>by cases z) (fun b z=>absurd rfl z) fun z=>absurd rfl z
 |none=>
  refine i (fun b=>if b=a then some (.frz {cls:= .type "list",data:= .seq vs.toArray} (.lst (ns.map V.int)))else none) (fun b=>?_) (.inl (.inr ⟨{cls:= .type "list",data:= .seq vs.toArray},if_pos rfl⟩)) (fun b u z=>?_) (fun b z=>?_) fun _=>hk
  ·grind
  ·by_cases hb:b=a
   ·cases((if_pos hb).symm.trans z)
    subst hb;exact⟨ha,by simp_all,vs,_,rv,ha⟩
   ·simp_all
  ·simp_all
theorem Zii{l:PySem.W.OpenLaw}{n k:Nat}{q:Program}{loose:List _}{XP:(Str->Option _)->Heap->Prop}{YP:World->Heap->Prop}{d:DefRec}{K:Params->PySem.W.Frag}{CX:World->CXT}{sp:World->Sp}{x:Str}
  (hn:l.most=some n)(hn2:n<=sizeLine)(hdf:d.params.defaults=[])(hr:Room k callerA)
  (hY:∀(w:World)(h:Heap),YP w h->(K w.params).In h)
  (F:∀(w:World)(mg:Str->Option _)(fa:Addr)(h:Heap),(K w.params).In h->h.Ns mainGlobals mg->mg d.name=some (.ref fa)->
   ∃fd:FuncData,(∀(s:Shared)(u:Value),BindsTo s fd ⟨[u],[]⟩ [(x,u)])/\
    ∀base:Heap,(K w.params).In base->base.Ns mainGlobals mg->FnOk l.prog w (K w.params) mg base (CX w) k fa fd [x] (sp w))
  (hsp:∀(w:World)(H:Hp)(a:Addr)(ns:List Int),ns.length<=n->Zlb H->SqL (K w.params) H a (ns.map V.int)->sp w [.ref a] H (fun v _=>v= .bl true) fun _ _ _=>False)
  (hCX:∀(w:World)(H:Hp)(s:Shared)(e:Value)(s':Shared),CX w [] H s (fun _ _ _=>False) e s'->False):
  PySem.W.WalkO q loose XP YP l.row.toRowW d [] (fun f vs=>PySem.call f vs):=by
 refine Att.attach_call hn hdf fun w _ A mg _ fa o _ _ _ a vs ns G Y _ _ _ m j i c r=>?_;have p:=hY w _ Y;obtain⟨fd,B,t⟩:=F w mg fa _ p G.T.g m;exact Zhn p G.T.g G.T.b G.T.builtins G.T.nolimit r j i (QM c hn2) hr t B (fun H z y=>hsp w H a ns c z y) fun H e s'=>hCX w H A e s'
def inClass(s:Stmt)(j:Nat):Stmt:=match s with
 | .ClassDef _ _ _ body _ _ _ _ _ _ _=>body.getD j (.Pass ⟨0,0,0,0⟩)
 |_=> .Pass ⟨0,0,0,0⟩
def JN(s:Stmt):Arguments:=match s with
 | .FunctionDef _ a _ _ _ _ _ _ _ _=>a
 |_=>{posonlyargs:=[],args:=[],vararg:=none,kwonlyargs:=[],kw_defaults:=[],kwarg:=none,defaults:=[]}
def ZE(s:Stmt):List Stmt:=match s with
 | .FunctionDef _ _ b _ _ _ _ _ _ _=>b
 |_=>[]
def Zg(s:Stmt):Scope:=match s with
 | .FunctionDef _ _ _ _ _ _ sc _ _ _=>sc
 |_=>{kind:= .function,names:=[],isGenerator:=false,isCoroutine:=false}
abbrev CX0:CXT:=fun _ _ _ _ _ _=>False
abbrev E0:XK:=fun _ _ _=>False
theorem Zcu{X}:Zah CX0 X E0:=fun _ _ _ _ _ _ _ h=>h.elim
structure Fun(K:PySem.W.Frag)(x qual:Str)(st:Stmt)(f:Addr)(fd:FuncData):Prop where
 ex:∃(oc:Value)(od:Option Addr)(kV doc pm:Value)(an:Option Addr)(cdv ct:Value)(osl:Array (Option Value)),
  fd=PySem.W.fnOf x qual (JN st) (ZE st) (Zg st) .none kV doc pm an cdv ct/\K.lookup f=some ⟨oc,od,.func fd,osl⟩/\PySem.W.codeIn K cdv qual=true
 kp:PySem.W.keepIn K (.ref f)=true
section
variable{P:Program}{w:World}{K:PySem.W.Frag}{mg:Str->Option Value}{base:Heap}
theorem Fun.ok{x qual}{st}{f}{fd}{N ps:List _}{k}{sp:Sp}(F:Fun K x qual st f fd)(S:Zm N ps (Zg st))(len:∀vs H Q E,sp vs H Q E->vs.length=ps.length)
  (hbody:∀(cdv:Value)(A:Around)(outer:List _)(s:Shared)(H:Hp)(vs:List V)(Q:VK)(E:XK),Room k (A.deeper (envOfC qual (Zg st) s.heap.objs.size f cdv))->sp vs H Q E->
   ∃t,PSs (Yg CX0 P w K mg base N qual (Zg st) f cdv A outer s H E).nox (ZE st) t/\t {nx:=fun _ H'=>Q .non H',rt:=Q} (start N vs) H):FnOk P w K mg base CX0 (k+1) f fd ps sp:=by
 obtain⟨_,_,kV,_,_,_,cdv,_,_,rfl,c,a⟩:=F.ex;refine ZdN c a S len fun A outer s H vs Q E d b=>?_;obtain⟨t,h,q⟩:=hbody _ A _ s H vs Q E d b;exact⟨t,h.nox,q⟩
theorem Fun.binds{x qual}{st}{f}{fd}{ps}(F:Fun K x qual st f fd)
  (h:∀(kV doc pm:Value)(an:Option _)(cdv ct:Value)(us:List _),us.length=ps.length->bindArgs (PySem.W.fnOf x qual (JN st) (ZE st) (Zg st) .none kV doc pm an cdv ct) ⟨us,[]⟩=pure (ps.zip us)):Binds K fd ps []:=by
 obtain⟨_,_,kV,doc,pm,an,cdv,ct,_,rfl,_,_⟩:=F.ex;exact .all (h kV doc pm an cdv ct)
end
theorem Zc3{A}{k}(hr:Room k A):A.units+1<cLine:=Nat.lt_of_le_of_lt (Nat.add_le_add_left (by decide) _) hr.units
section
variable{X:Cx}
theorem pv(i){x}{pos}(hN:X.N[i]?=some x:=by rfl)(hv:Vis X.env.scope x:=by first|exact Or.inl rfl|exact Or.inr (Or.inl rfl)|exact Or.inr (Or.inr rfl))(hd:(x==("__debug__":Str))=false:=by decide)
  (hcd:(x==("__classdict__":Str))=false:=by decide):PE X (.Name x pos) (Zaj i):=Zkk hN hv hd hcd
end
theorem ZA{A B:Prop}(h:B):if false=true then A else B:=by
 simp_all
theorem Yi{A B:Prop}(h:A):if true=true then A else B:=by
 assumption
theorem Z3{c A B:Prop}[Decidable c](h1:c->A)(h2:¬c->B):if c then A else B:=by
 simp_all
def Same(H H':Hp):Prop:=∀b o,H b=some o->H' b=some o
theorem Same.refl(H:Hp):Same H H:=fun _ _ h=>h
theorem Same.trans{H H1 H2}(a:Same H H1)(b:Same H1 H2):Same H H2:=fun c o h=>b c o (a c o h)
theorem Same.free{H H'}(e:Same H H'){l}(h:H' l=Option.none):H l=Option.none:=by
 cases q:H l with
 |none=>rfl
 |_ o=>
  rw[e l o q]at h;cases h
theorem Same.seq{K}{H H'}{a}{xs}(e:Same H H')(h:SqL K H a xs):SqL K H' a xs:=by
 rcases h with(h|⟨o,h⟩)|h
 ·exact .inl (.inl (e _ _ h))
 ·exact .inl (.inr ⟨o,e _ _ h⟩)
 ·exact .inr h
def Z4(X:Cx)(scope:Scope)(cl:List (Str×Addr))(C:Addr)(N:List Str)(fp:List Addr)(s:Shared)(H:Hp):Cx:=
 {X with N:=N,s₀:=s,H₀:=H,env:=compEnvC scope cl C X.env,outer:=X.stack,ex:=fp,fn:=fun _=>false,pn:=[],xe:=fun _ _=>False}
def PTs(X:Cx)(ifs:List Expr)(t:TT):Prop:=
 ∀(pins)(s)(σ:St)(H)(Q),Inv X pins σ H s->t σ H Q->
  wpAny (model X.prog X.w) X.A (forIn ifs true fun c r=>if r=true then do let ok<-isTrue c X.env (eval c X.env);pure (ForInStep.yield ok)else pure (ForInStep.yield r)) (TP X pins σ Q) X.xe s
def tTrue:TT:=fun _ H Q=>Q true H
theorem Zbd{X}:PTs X [] tTrue:=fun _ _ _ H _ I h=>wpAny_tests_nil ⟨H,I,h⟩
theorem Y4{X}{c}{t}(h:PT X c t):PTs X [c] t:=fun a s σ H Q I q=>wpAny_tests_one (h a s σ H Q I q)
theorem YB{prog}{w}{A}{R:Result->Shared->Prop}{s}{elt target iter}{ifs:List _}{scope}{pos}{it acc}{env}(I:Nat->Shared->Prop)
  (turn:∀n s,I n s->wpAny (model prog w) A (pyNext it) (fun r s₁=>match r with
   |none=>R (.ok .next) s₁
   |some v=>wpAny (model prog w) A (letOwnedTupleGo target it v) (fun _ s₁'=>wpAny (model prog w) A (assign target env v) (fun _ s₂=>
     wpAny (model prog w) A (forIn ifs true fun c r=>if r=true then do let ok<-isTrue c env (eval c env);pure (ForInStep.yield ok)else pure (ForInStep.yield r)) (fun ok s₃=>
      if ok=true then wpAny (model prog w) A (eval elt env) (fun x s₄=>
       wpAny (model prog w) A (call (.builtin "list.append") [acc,x]) (fun _ s₅=>∃m,m<n/\I m s₅) (fun _ _=>False) s₄) (fun _ _=>False) s₃
      else∃m,m<n/\I m s₃) (fun _ _=>False) s₂) (fun _ _=>False) s₁') (fun _ _=>False) s₁) (fun _ _=>False) s)
  (n:Nat) (h:I n s):
  codeAny (model prog w) A (.compLoop (.ListComp elt [⟨target,iter,ifs,0⟩] scope pos) 0 it acc env) R s:=by
 have a:∀{α:Type}{t:Sem α}{Q:α->Shared->Prop}{E:Value->Shared->Prop}{s:Shared},wpAny (model prog w) A t Q (fun _ _=>False) s->wpAny (model prog w) A t Q E s:=
  fun h=>Q2 h (fun _ _ q=>q) fun _ _ q=>q.elim
 refine codeAny_loop rfl I (fun n s k=>(wpAny_noted (Qa (wpAny_standAt (Qa (Q2 (a (turn n s k)) (fun r s₁ f=>?_) fun _ _ b=>b)))))) n h;cases r with
 |none=>exact Qg f
 |some v=>
  refine Qa (Q2 (a f) (fun _ s₁' d=>(Qa (Q2 (a d) (fun _ s₂ g=>Qa (Q2 (a g) (fun ok s₃ e=>?_) fun _ _ b=>b)) fun _ _ b=>b))) fun _ _ b=>b);cases ok with
  |false=>exact Qg ⟨rfl,e⟩
  |true=>
   exact Qa (Qa (Q2 (a e) (fun x s₄ j=>Qa (Q2 (a j) (fun _ s₅ i=>Qg (Qg ⟨rfl,i⟩)) fun _ _ b=>b)) fun _ _ b=>b))
def BsOk(XN:List Str)(xn sn:List (Str×NameKind)):List Str->List (Option Nat)->Prop
 |[],[]=>True
 |_::N,none::bs=>BsOk XN xn sn N bs
 |x::N,some j::bs=>(XN[j]?=some x/\xn.lookup x=some .cell/\sn.lookup x=some .free)/\BsOk XN xn sn N bs
 |_,_=>False
def bst(bs:List (Option Nat))(σ:St):St:=bs.map fun o=>o.bind fun j=>(σ[j]?).join
theorem BsOk.len{XN}{xn sn}:∀{N}{bs},BsOk XN xn sn N bs->bs.length=N.length
 |[],[],_=>rfl
 |_::N,none::bs,h=>UZ _ (BsOk.len (N:=N) (bs:=bs) h)
 |_::N,some _::bs,h=>UZ _ (BsOk.len (N:=N) (bs:=bs) h.2)
theorem BsOk.get{XN}{xn sn}:∀{N}{bs}{i j:Nat},BsOk XN xn sn N bs->bs[i]?=some (some j)->∃x,N[i]?=some x/\XN[j]?=some x/\xn.lookup x=some .cell/\sn.lookup x=some .free
 |[],[],_,_,_,e=>by simp at e
 |_::N,none::bs,0,_,_,e=>by simp at e
 |_::N,none::bs,i+1,j,h,e=>by
  obtain⟨x,c,b⟩:=BsOk.get (bs:=bs) h (by simpa using e)
  simp_all
 |x::N,some k::bs,0,j,h,e=>by
  have:k=j:=by simpa using e
  subst this;exact⟨x,rfl,h.1⟩
 |_::N,some k::bs,i+1,j,h,e=>by
  obtain⟨x,c,b⟩:=BsOk.get h.2 (by simpa using e)
  simp_all
theorem Jg{env:Env}:∀{names:List (Str×NameKind)}{x:Str},names.lookup x=some .free->
  ((names.map fun(n,k)=>if(k==NameKind.free&&env.scope.kind== .function&&env.kindOf n==some .cell)then(n,NameKind.cell)else(n,k)).lookup x=some .cell\/
  (names.map fun(n,k)=>if(k==NameKind.free&&env.scope.kind== .function&&env.kindOf n==some .cell)then(n,NameKind.cell)else(n,k)).lookup x=some .free)
 |[],_,h=>by simp at h
 |(n,k)::r,x,h=>by
  have _:=@Jg env r x
  grind
theorem Zan{env:Env}:∀{names:List (Str×NameKind)}{x:Str},(∀y∈names,y.2≠.cell)->
  ((names.map fun(n,k)=>if(k==NameKind.free&&env.scope.kind== .function&&env.kindOf n==some .cell)then(n,NameKind.cell)else(n,k)).lookup x=some .cell\/
  (names.map fun(n,k)=>if(k==NameKind.free&&env.scope.kind== .function&&env.kindOf n==some .cell)then(n,NameKind.cell)else(n,k)).lookup x=some .free)->names.lookup x=some .free
 |[],_,_,h=>by simp at h
 |(n,k)::r,x,b,h=>by
  have _:=@Zan env r x fun y a=>b y (.tail _ a);simp only[Vd]at h
  grind
structure Blk(X:Cx)(scope:Scope)(cl:List (Str×Addr))(N:List Str)(bs:List (Option Nat)):Prop where
 clos:closureFor scope X.env=pure cl
 kind:scope.kind= .function
 cell:∀y∈scope.names,y.2≠.cell
 names:∀y∈scope.names,y.2= .local->scope.names.lookup y.1=some .local
 cl1:∀p∈cl,X.env.cells.lookup p.1=some p.2
 cl2:∀y∈scope.names,y.2= .free->(cl.lookup y.1).isSome=true
 bs:BsOk X.N X.env.scope.names scope.names N bs
section
variable{X:Cx}{scope:Scope}{cl:List (Str×Addr)}{N:List Str}{bs:List (Option Nat)}{pins:List (Addr×Obj)}{σ:St}{H:Hp}{s:Shared}{fp:List Addr}{C:Addr}
theorem Blk.c1(B:Blk X scope cl N bs){x}{c}(h:cl.lookup x=some c):X.env.cells.lookup x=some c:=B.cl1 _ (QS h)
theorem Blk.c2(B:Blk X scope cl N bs){x}(h:(compEnvC scope cl C X.env).kindOf x=some .cell\/(compEnvC scope cl C X.env).kindOf x=some .free):∃c,cl.lookup x=some c:=Q6.mp (B.cl2 (x,.free) (QS (Zan (env:=X.env) B.cell h)) rfl)
theorem Blk.ok(B:Blk X scope cl N bs)(I:Inv X pins σ H s)(hf:∀b∈fp,Zai X pins H b) (ho:∀b∈fp,∃o,s.heap.get? b=some o/\∀v,o.data≠.cell v) (hC:s.heap.objs.size<=C):(Z4 X scope cl C N fp s H).Ok:=by
 refine⟨I.ok.mod,B.kind,I.ok.glob,I.ok.blt,hC,fun x y c f k=>I.ok.inj x y c (B.c1 f) (B.c1 k),fun x h=>B.c2 h,fun x c h _=>(QI h).elim,I.ok.hd,I.ok.frames,.inl rfl,fun b a=>?_,I.bs,QM I.ok.bsz I.sz,fun b o e a=>?_,fun b a d=>?_,I.stack,I.stkFree⟩
 ·obtain⟨o,e,_⟩:=ho b a
  obtain⟨_,_,_,_,l,_⟩:=hf b a;exact⟨Qo (Qs (Qh e) hC),fun x c h=>l x c (B.c1 h)⟩
 ·obtain⟨_,_,_,j,_⟩:=hf b a
  rcases j with z|z
  ·exact I.ok.noex b o e z
  ·exact absurd (Qs (Qh e) (QM I.ok.bsz z)) (QU _)
 ·obtain⟨_,g,i,_⟩:=hf b a
  rcases Qn.mp (I.stkSub b d)with z|z
  ·exact g z
  ·exact i z
theorem Blk.inv(B:Blk X scope cl N bs)(I:Inv X pins σ H s)(hf:∀b∈fp,Zai X pins H b) (ho:∀b∈fp,∃o,s.heap.get? b=some o/\∀v,o.data≠.cell v) (hC:s.heap.objs.size<=C) {h'} {t'}
  (hk:∀b o,s.heap.get? b=some o->h'.get? b=some o) {m:Str->Option _} (hn:h'.Ns C m) {D:Addr} {oD:Obj} (hD:h'.get? D=some oD) (hD1:s.heap.objs.size<=D) (hDC:D≠C) (hDd:∀v,oD.data≠.cell v):
  Inv (Z4 X scope cl C N fp s H) [(D,oD)] (bst bs σ) H {s with heap:=h',toks:=t'}:=by
 refine⟨(B.ok I hf ho hC),rfl,I.bare,Un.kept hk,⟨m,hn,fun i x v M Q _=>?_⟩,fun x c h=>?_,I.hok.fresh hC,fun x c h=>I.freeC x c (B.c1 h),fun p S=>?_,I.hok.kept hk,?_⟩
 ·have a:=Q
  unfold bst at a;rw[Qx]at a;cases q:bs[i]? with
  |none=>rw[q]at a;cases a
  |some o=>
   rw[q]at a;cases o with
   |none=>cases a
   |some j=>
    obtain⟨y,F,J,E,A⟩:=B.bs.get q;rw[(show N[i]?=some x from M)]at F;cases F;have K:σ[j]?=some (some v):=by
     have z:(σ[j]?).join=some v:=Option.some.inj a;cases w:σ[j]? with
     |none=>rw[w]at z;cases z
     |some o=>rw[w]at z;rw[show o=some v from z]
    obtain⟨_,_,O⟩:=I.loc;obtain⟨u,r,l⟩:=O j x v J K (.inr (.inl E));refine⟨u,r,.inr ⟨Jg (env:=X.env) A,?_⟩⟩;rcases l with⟨R,_⟩|⟨_,c,P,L⟩
    ·have g:X.env.scope.names.lookup x=some .local:=R
     rw[E]at g;cases g
    ·obtain⟨_,h'⟩:=Q6.mp (B.cl2 (x,.free) (QS A) rfl)
     have G:=B.c1 h';rw[P]at G;cases G;obtain⟨k,f,n⟩:=L;exact⟨c,h',k,hk _ _ f,n⟩
 ·obtain⟨v,k,f,n⟩:=I.cell x c (B.c1 h)
  exact⟨v,k,hk _ _ f,n⟩
 ·have e:p=(D,oD):=by simpa[Z4]using S
  subst e;refine⟨hD,I.hok.fresh hD1,hDC,fun z=>?_,hDd⟩;rcases Qn.mp (I.stkSub D z)with q|q
  ·exact QU _ (Qs I.lt (by rw[<-q];exact hD1))
  ·exact I.nofs hD1 q
 ·unfold bst
  rw[Qq];exact B.bs.len
end
def tLC(bs:List (Option Nat))(wi:TI)(g:TG)(tt:TT)(te:TE):TE:=fun σ H Q=>wi σ H fun J H1=>∃W:Nat->Nat->List V->St->Hp->Prop,(∃m,W 0 m [] (bst bs σ) H1)/\∀i m ys σ' H',W i m ys σ' H'->
 (J.stop i H'/\ys.length<=sizeLine/\∀p,H' p=none->Q (.ref p) (upd H' p (.lst ys)))\/
 (J.go i H'/\ys.length<sizeLine/\∃N:List V->St->Hp->Prop,(∀zs σ2 H2,N zs σ2 H2->∃m',m'<m/\W (i+1) m' zs σ2 H2)/\∀x H2,J.yld i H' x H2->g x σ' H2 fun σ3 H3=>tt σ3 H3 fun b H4=>
  if b=true then te σ3 H4 fun v H5=>N (ys++[v]) σ3 H5 else N ys σ3 H4)
theorem Zad:∀(names)(n)(acc),cellsFrom n names acc=cellsFrom n names []++acc
 |[],_,_=>rfl
 |(x,k)::r,n,acc=>by
  unfold cellsFrom;split
  ·rw[Zad r _ _,Zad r _ [(x,n)],List.append_assoc]
   rfl
  ·exact Zad r n _
theorem ZaQ:∀{names}{n}{x}{c},(x,c)∈cellsFrom n names []->(x,NameKind.cell)∈names/\n<=c
 |[],_,_,_,h=>by cases h
 |(y,k)::r,n,x,c,h=>by
  unfold cellsFrom at h;split at h
  ·rename_i _
   rw[Zad]at h;rcases Qw.mp h with z|z
   ·have:=ZaQ z
    grind
   ·simp_all
  ·exact⟨.tail _ (ZaQ h).1,(ZaQ h).2⟩
theorem JZ{α:Type}:∀{l m:List _}{x:Str}{c:α},(l++m).lookup x=some c->l.lookup x=some c\/(l.lookup x=none/\m.lookup x=some c)
 |[],_,_,_,h=> .inr ⟨rfl,h⟩
 |(y,d)::r,m,x,c,h=>by
  rw[List.cons_append]at h;cases a:x==y with
  |true=>simp_all
  |_=>simp only[List.lookup_cons,a]at h⊢;exact JZ h
theorem Zaw{α:Type}:∀{l m:List _}{x:Str}{c:α},l.lookup x=none->m.lookup x=some c->(l++m).lookup x=some c
 |[],_,_,_,_,h=>h
 |(y,d)::r,m,x,c,a,h=>by
  rw[List.cons_append];cases b:x==y with
  |true=>simp_all
  |_=>simp only[List.lookup_cons,b]at a⊢;exact Zaw a h
theorem ZiL{α:Type}:∀{l m:List _}{x:Str}{c:α},l.lookup x=some c->(l++m).lookup x=some c
 |(y,d)::r,m,x,c,h=>by
  grind
theorem JP{env:Env}:∀{names:List (Str×NameKind)}{x:Str},
  ((names.map fun(n,k)=>if(k==NameKind.free&&env.scope.kind== .function&&env.kindOf n==some .cell)then(n,NameKind.cell)else(n,k)).lookup x=some .cell\/
  (names.map fun(n,k)=>if(k==NameKind.free&&env.scope.kind== .function&&env.kindOf n==some .cell)then(n,NameKind.cell)else(n,k)).lookup x=some .free)->names.lookup x=some .free\/names.lookup x=some .cell
 |[],_,h=>by simp at h
 |(n,k)::r,x,h=>by
  have _:=@JP env r x
  grind
theorem ZcY{M}{A}{E:Value->Shared->Prop}{s}{scope}{globals}{cl:List (Str×Addr)}{qual}{env}{Q:Env->Shared->Prop}
  (hQ:∀h':Heap,h'.Ns s.heap.objs.size (fun _=>none)->(∀b o,s.heap.get? b=some o->h'.get? b=some o)->CellsOk h' (s.heap.objs.size+1) (cellsFrom (s.heap.objs.size+1) scope.names [])->
   Q {scope,locals:=s.heap.objs.size,globals,cells:=cellsFrom (s.heap.objs.size+1) scope.names cl,qual,func:=none,code:=env.code,frame:=env.frame,builtins:=env.builtins} {s with heap:=h'}):
  wpAny M A (newFunctionEnv scope globals cl [] qual none .none (some env)) Q E s:=by
 simp only[newFunctionEnv,Option.isSome_some,if_true];refine Qa (wpAny_alloc (Qa (wpAny_layCells _ (fun _ _ cells=>by rfl) _ _ _ _ ?_)));have c:=cellsFrom_ok scope.names (s.heap.push {cls:= .type "dict",data:= .dict #[]}) (s.heap.objs.size+1) [] ⟨fun _ _ d=>(nomatch d),List.Pairwise.nil⟩ (by simp_all);rw[QR]at c;rw[QR ..];exact Qa (Qg (Qg (hQ _ ((Heap.Ns.new s.heap (.type "dict")).keeps (pushCells_keeps _ _)) (fun b o e=>pushCells_keeps _ _ b o (Qc _ e)) c)))
def ZJ(X:Cx)(scope:Scope)(cl:List (Str×Addr))(C:Addr)(N:List Str)(fp:List Addr)(s:Shared)(H:Hp):Cx:=
 {X with N:=N,s₀:=s,H₀:=H,env:=compEnvC scope (cellsFrom (C+1) scope.names cl) C X.env,outer:=X.stack,ex:=fp,fn:=fun x=>decide (scope.names.lookup x=some .cell),pn:=[],xe:=fun _ _=>False}
structure BlkC(X:Cx)(scope:Scope)(cl:List (Str×Addr))(N:List Str)(bs:List (Option Nat)):Prop where
 clos:closureFor scope X.env=pure cl
 kind:scope.kind= .function
 cell:∀y∈scope.names,y.2= .cell->scope.names.lookup y.1=some .cell
 names:∀y∈scope.names,y.2= .local->scope.names.lookup y.1=some .local
 cl1:∀p∈cl,X.env.cells.lookup p.1=some p.2
 cl2:∀y∈scope.names,y.2= .free->(cl.lookup y.1).isSome=true
 bs:BsOk X.N X.env.scope.names scope.names N bs
section
variable{X:Cx}{scope:Scope}{cl:List (Str×Addr)}{N:List Str}{bs:List (Option Nat)}{pins:List (Addr×Obj)}{σ:St}{H:Hp}{s:Shared}{fp:List Addr}{C:Addr}
theorem BlkC.c1(B:BlkC X scope cl N bs){x}{c}(h:cl.lookup x=some c):X.env.cells.lookup x=some c:=B.cl1 _ (QS h)
theorem BlkC.either(B:BlkC X scope cl N bs){x}{c}(h:(cellsFrom (C+1) scope.names cl).lookup x=some c):(C<c/\(x,c)∈cellsFrom (C+1) scope.names [])\/X.env.cells.lookup x=some c:=by
 rw[Zad]at h;rcases JZ h with z|⟨_,z⟩
 ·have m:=QS z
  exact .inl ⟨(ZaQ m).2,m⟩
 ·exact .inr (B.c1 z)
theorem BlkC.fr(B:BlkC X scope cl N bs){x}{c}(hx:scope.names.lookup x=some .free)(h:cl.lookup x=some c):(cellsFrom (C+1) scope.names cl).lookup x=some c:=by
 rw[Zad];refine Zaw ?_ h;cases q:(cellsFrom _ _ []).lookup x with
 |none=>rfl
 |some _=>
  have:=B.cell _ (ZaQ (QS q)).1 rfl
  simp_all
theorem BlkC.c2(B:BlkC X scope cl N bs){x}(h:(compEnvC scope (cellsFrom (C+1) scope.names cl) C X.env).kindOf x=some .cell\/(compEnvC scope (cellsFrom (C+1) scope.names cl) C X.env).kindOf x=some .free):∃c,(cellsFrom (C+1) scope.names cl).lookup x=some c:=by
 rcases JP h with z|z
 ·obtain⟨c,e⟩:=Q6.mp (B.cl2 (x,.free) (QS z) rfl)
  exact⟨c,B.fr z e⟩
 ·exact Q6.mp (PySem.W.cellsFrom_some scope.names (C+1) cl (.inl z))
theorem BlkC.ok(B:BlkC X scope cl N bs)(I:Inv X pins σ H s)(hf:∀b∈fp,Zai X pins H b) (ho:∀b∈fp,∃o,s.heap.get? b=some o/\∀v,o.data≠.cell v) (hC:s.heap.objs.size<=C) (ap:(cellsFrom (C+1) scope.names []).Pairwise fun x y=>x.2≠y.2):(ZJ X scope cl C N fp s H).Ok:=by
 have lo:∀x c,X.env.cells.lookup x=some c->c<s.heap.objs.size:=fun x c e=>by
  obtain⟨v,o,ho,_⟩:=I.cell x c e;exact Qh ho
 refine⟨I.ok.mod,B.kind,I.ok.glob,I.ok.blt,hC,fun x y c r k=>?_,fun x h=>B.c2 h,fun x c h k=>?_,I.ok.hd,I.ok.frames,.inl rfl,fun b d=>?_,I.bs,QM I.ok.bsz I.sz,fun b o e d=>?_,fun b d g=>?_,I.stack,I.stkFree⟩
 ·rcases B.either r with⟨E,w⟩|n<;>rcases B.either k with⟨q,t⟩|m
  ·exact name_of_addr ap w t
  ·exact absurd (Qs (lo _ _ m) (QM hC (Vf E))) (QU _)
  ·exact absurd (Qs (lo _ _ n) (QM hC (Vf q))) (QU _)
  ·exact I.ok.inj x y c n m
 ·have f:(cellsFrom _ _ cl).lookup x=some c:=k
  rw[Zad]at f;obtain⟨_,e⟩:=Q6.mp (PySem.W.cellsFrom_some scope.names (C+1) [] (.inl (Qr h)));rcases JZ f with z|⟨z,_⟩
  ·have:=(ZaQ (QS z)).2
   show s.heap.objs.size<=c;omega
  ·rw[z]at e;cases e
 ·obtain⟨o,e,_⟩:=ho b d
  obtain⟨_,_,_,_,A,_⟩:=hf b d;have j:=Qh e;refine⟨Qo (Qs j hC),fun x c h=>?_⟩;rcases B.either h with⟨l,_⟩|D
  ·grind
  ·exact A x c D
 ·obtain⟨_,_,_,p,_⟩:=hf b d
  rcases p with z|z
  ·exact I.ok.noex b o e z
  ·exact absurd (Qs (Qh e) (QM I.ok.bsz z)) (QU _)
 ·obtain⟨_,F,u,_⟩:=hf b d
  rcases Qn.mp (I.stkSub b g)with z|z
  ·exact F z
  ·exact u z
theorem BlkC.inv(B:BlkC X scope cl N bs)(I:Inv X pins σ H s)(hf:∀b∈fp,Zai X pins H b) (ho:∀b∈fp,∃o,s.heap.get? b=some o/\∀v,o.data≠.cell v) (hC:s.heap.objs.size<=C) {h':Heap}
  (hk:∀b o,s.heap.get? b=some o->h'.get? b=some o) (cs:CellsOk h' (C+1) (cellsFrom (C+1) scope.names [])) {m:Str->Option _} (hn:h'.Ns C m) {D:Addr} {oD:Obj} (hD:h'.get? D=some oD) (hD1:s.heap.objs.size<=D) (hDC:D≠C) (hDd:∀v,oD.data≠.cell v):
  Inv (ZJ X scope cl C N fp s H) [(D,oD)] (bst bs σ) H {s with heap:=h'}:=by
 refine⟨(B.ok I hf ho hC cs.apart),rfl,I.bare,Un.kept hk,⟨m,hn,fun i x v K J _=>?_⟩,fun x c h=>?_,I.hok.fresh hC,fun x c h=>?_,fun p T=>?_,I.hok.kept hk,?_⟩
 ·have a:=J
  unfold bst at a;rw[Qx]at a;cases q:bs[i]? with
  |none=>rw[q]at a;cases a
  |some o=>
   rw[q]at a;cases o with
   |none=>cases a
   |some j=>
    obtain⟨y,F,P,E,k⟩:=B.bs.get q;rw[(show N[i]?=some x from K)]at F;cases F;have Q:σ[j]?=some (some v):=by
     have z:(σ[j]?).join=some v:=Option.some.inj a;cases w:σ[j]? with
     |none=>rw[w]at z;cases z
     |some o=>rw[w]at z;rw[show o=some v from z]
    obtain⟨_,_,L⟩:=I.loc;obtain⟨u,r,l⟩:=L j x v P Q (.inr (.inl E));refine⟨u,r,.inr ⟨Jg (env:=X.env) k,?_⟩⟩;rcases l with⟨O,_⟩|⟨_,c,S,M⟩
    ·have g:X.env.scope.names.lookup x=some _:=O
     rw[E]at g;cases g
    ·obtain⟨_,h'⟩:=Q6.mp (B.cl2 (x,.free) (QS k) rfl)
     have G:=B.c1 h';rw[S]at G;cases G;obtain⟨n,f,t⟩:=M;exact⟨c,B.fr k h',n,hk _ _ f,t⟩
 ·rcases B.either h with⟨_,R⟩|e
  ·exact⟨_,(cs.empty x c R).1⟩
  ·obtain⟨v,n,f,t⟩:=I.cell x c e
   exact⟨v,n,hk _ _ f,t⟩
 ·rcases B.either h with⟨l,_⟩|e
  ·exact I.hok.fresh (QM hC (Vf l))
  ·exact I.freeC x c e
 ·have e:p=(D,oD):=by simpa[ZJ]using T
  subst e;refine⟨hD,I.hok.fresh hD1,hDC,fun z=>?_,hDd⟩;rcases Qn.mp (I.stkSub D z)with q|q
  ·exact QU _ (Qs I.lt (by rw[<-q];exact hD1))
  ·exact I.nofs hD1 q
 ·unfold bst
  rw[Qq];exact B.bs.len
end
theorem Zew{ifs}{pos}{wi}{g}{tt}{te}(B:BlkC X scope cl N bs)(hc:X.calm=true)
  (hi:PI X tg iter wi)(hg:∀C fp s H,PG (ZJ X scope cl C N fp s H) tg g) (ht:∀C fp s H,PTs (ZJ X scope cl C N fp s H) ifs tt) (he:∀C fp s H,PE (ZJ X scope cl C N fp s H) elt te)
  (hs:∀x,foldedSetIterable iter X.env x=pure x:=by intro _;rfl):
  PE X (.ListComp elt [⟨tg,iter,ifs,0⟩] scope pos) (tLC bs wi g tt te):=by
 refine fun pins s σ H Q I h=>wpAny_comprehension_free rfl hs B.clos B.kind B.names (thn (hi pins s σ H _ I h) fun v s1 h1=>thn h1 fun itv f h2=>?_);obtain⟨it,fp,tn,J,H2,rfl,I2,T,t,f2,W,⟨m0,w0⟩,turn⟩:=h2;refine UF (ZcY fun h₁ hns₁ hkp₁ hcs₁=>?_);generalize hG:f.heap.push {cls:= .type "list",dict:=none,data:= .seq ([]:List Value).toArray}=G at hns₁ hkp₁ hcs₁⊢;have hC:G.objs.size=f.heap.objs.size+1:=by rw[<-hG,QR]
 have hDC:f.heap.objs.size≠G.objs.size:=by rw[hC];exact Qo (Q7 _)
 have hCle:f.heap.objs.size<=G.objs.size:=by rw[hC];exact Nat.le_succ _
 have old:=fun b o e=>hkp₁ b o (hG▸Qc _ e);have stat:∀{D:Addr}{o:Obj}{H':Hp},f.heap.objs.size<=D->(∀b∈fp,H' b=none)->∀b∈fp,Zai (ZJ X scope cl G.objs.size N fp f H2) [(D,o)] H' b:=fun{D o H'} hD hn b a=>by
  obtain⟨ob,eb,_⟩:=T.obj _ _ t b a;obtain⟨_,f1,f3,f4,f5,_⟩:=f2 b a;have ok:=B.ok I2 f2 (T.obj _ _ t) (C:=G.objs.size) hCle hcs₁.apart;refine⟨hn b a,(ok.exf b a).1,ok.exfs b a,.inl a,(ok.exf b a).2,fun p hp=>?_⟩;have e:p=(D,o):=by simpa[ZJ]using hp
  subst e;exact Uo (Qs (Qh eb) hD)
 have loop:∀s₃:Shared,s₃={f with heap:=h₁}->
   codeAny (model X.prog X.w) X.A (.compLoop (.ListComp elt [⟨tg,iter,ifs,0⟩] scope pos) 0 (.ref it) (.ref f.heap.objs.size) (compEnvC scope (cellsFrom (G.objs.size+1) scope.names cl) G.objs.size X.env))
    (compPost (model X.prog X.w) X.A X.xe none (EP X pins σ Q) (.ref f.heap.objs.size) G.objs.size) s₃:=by
  rintro s₃ rfl;refine YB (fun n s'=>E6 fun i ys l k σ' H'=>Inv (ZJ X scope cl G.objs.size N fp f H2) [(f.heap.objs.size,{cls:= .type "list",data:= .seq (List.toArray l) k})] σ' H' s'/\Vals ys l/\tn i s'.heap/\(∀b∈fp,H' b=none)/\W i n ys σ' H') ?_ m0
   ⟨0,[],[],0,bst bs σ,H2,B.inv I2 f2 (T.obj _ _ t) hCle old hcs₁ hns₁ (hkp₁ _ _ (hG▸Ql _ rfl)) (Qe _) hDC (fun v z=>nomatch z),.nil,T.keep _ _ _ t fun b _ o e=>old b o e,fun b a=>(f2 b a).1,w0⟩
  rintro n s3 ⟨i,ys,l,k,σ3,H3,I3,rv,st3,fr3,w3⟩;rcases turn i n ys σ3 H3 w3 with⟨stop,hz,qn⟩|⟨go,hz,NN,hNN,step⟩
  ·refine thn (T.done (ZJ X scope cl G.objs.size N fp f H2) rfl rfl rfl hc i _ s3 σ3 H3 (fun _ _=>False) I3 (stat (Qe _) fr3) st3 stop) fun r s4 xq1=>?_
   obtain⟨hr,I4⟩:=xq1;subst hr;have pD4:=I4.pin _ (Qm _ (.head _));obtain⟨m4,hn4,_⟩:=I4.loc;refine⟨m4,hn4,fun h5 sb5=>?_⟩;have k5:=fun b o a e=>sb5.extBut b o a e;have hok5:HOk X.prog X.w (upd H3 f.heap.objs.size (.lst ys)) h5:=fun b u e=>by
    by_cases a:b=f.heap.objs.size
    ·subst a
     rw[Zd]at e;cases e;exact⟨hz,l,k,rv,(sb5.extBut _ _ hDC pD4.1)⟩
    ·rw[Zi a]at e
     have nC:∀c u',H3 c=some u'->c≠G.objs.size:=fun c u' q z=>by rw[z,(show H3 G.objs.size=none from I4.free)]at q;cases q
     have nD:∀c u',H3 c=some u'->c≠f.heap.objs.size:=fun c u' q z=>by rw[z,pD4.2.1]at q;cases q
     refine(I4.hok b u e).stay (fun c v hc' q=>k5 c v ?_ q) (fun c q=>by rw[Zi (nD c _ q)];exact q) fun c xs q=>by rw[Zi (nD c _ q)];exact q
     rcases hc' with z|z
     ·rw[z];exact nC b u e
     ·exact nC c _ z
   have un4:=I4.base;have neC:∀b o,f.heap.get? b=some o->b≠G.objs.size:=fun b o e=>Qo (Qs (Qh e) hCle);have un5:Un (frs X.stack) fp H2 (upd H3 f.heap.objs.size (.lst ys)) f.heap h5:={
    keep:=fun b o e n a hx=>k5 b o (neC b o e) (un4.keep b o e n a hx)
    slot:=fun b o e n a hx=>let⟨sl,q⟩:=un4.slot b o e n a hx;⟨sl,k5 b _ (neC b o e) q⟩
    free:=fun b o e n hx=>by rw[Zi ((show∀b o,f.heap.get? b=some o->b≠f.heap.objs.size from fun b o e=>Qo (Qh e)) b o e)];exact un4.free b o e n hx
    there:=fun b o e hx=>let⟨o',q⟩:=un4.there b o e hx;⟨o',k5 b _ (neC b o e) q⟩
    tups:=fun b xs e=>by rw[Zi (Zq e (I2.hok.fresh (Qe _)))];exact un4.tups b xs e
    frzs:=fun b o u e=>by rw[Zi (Zq e (I2.hok.fresh (Qe _)))];exact un4.frzs b o u e
    tbls:=fun b ps e=>by rw[Zi (Zq e (I2.hok.fresh (Qe _)))];exact un4.tbls b ps e}
   refine⟨.ref f.heap.objs.size,_,I2.call' (s':={s4 with heap:=h5}) (I4.os) un5 hok5 I4.bare (fun b a=>?_),rfl,qn _ pD4.2.1⟩;obtain⟨_,f1,f3,f4,f5,f6⟩:=f2 b a;exact⟨f4,f1,f5,f6⟩
  ·refine thn (T.item (ZJ X scope cl G.objs.size N fp f H2) rfl rfl rfl hc i _ s3 σ3 H3 (fun _ _=>False) I3 (stat (Qe _) fr3) st3 go) fun r s4 xq1=>?_
   obtain⟨u,hr,h4⟩:=xq1;subst hr;refine thn h4 fun _ s5⟨x,H5,I5,r5,y5,st5,fr5⟩=>thn (hg _ _ _ _ _ s5 σ3 H5 x u _ (I5.pinned (stat (Qe _) fr5) (T.obj _ _ st5)) r5 (step x H5 y5)) fun _ s6⟨σ6,H6,I6,q6⟩=>thn (ht _ _ _ _ _ s6 σ6 H6 _ I6 q6) fun ok s7 xq1=>?_;obtain⟨H7,I7,q7⟩:=xq1;have back:∀{σ8:St}{H8:Hp}{s8:Shared}{pl:List (Addr×Obj)},Inv (ZJ X scope cl G.objs.size N fp f H2) (pl++YG fp s5.heap) σ8 H8 s8->tn (i+1) s8.heap/\∀b∈fp,H8 b=none:=fun{σ8 H8 s8 pl} I8=>
    ⟨T.keep _ _ _ st5 fun b a o e=>(I8.pin (b,o) (Qm _ (Qm _ (Y0 a e)))).1,fun b a=>by
     obtain⟨o,e,d⟩:=T.obj _ _ st5 b a;exact(I8.pin (b,o) (Qm _ (Qm _ (Y0 a e)))).2.1⟩
   cases ok with
   |false=>
    rw[if_neg QI]at q7⊢;obtain⟨m',hm,w7⟩:=hNN _ _ _ q7;exact⟨m',hm,i+1,ys,l,k,σ6,H7,I7.unpinned,rv,(back I7).1,(back I7).2,w7⟩
   |true=>
    rw[if_pos rfl]at q7⊢;refine thn (he _ _ _ _ _ s7 σ6 H7 _ I7 q7) fun y s8 xq1=>?_;obtain⟨v8,H8,I8,r8,q8⟩:=xq1;obtain⟨m',hm,w8⟩:=hNN _ _ _ q8;have pD8:=I8.pin _ (Qm _ (Qz _ (.head _)));have hl:=rv.length;refine wpAny_list_append_plain ⟨k,pD8.1⟩ (fun h9 pl9 sb9=>?_) (by rw[QA];omega);obtain⟨k9,e9⟩:=pl9;have I9:Inv (ZJ X scope cl G.objs.size N fp f H2) (YG fp s5.heap) σ6 H8 {s8 with heap:=h9}:=(show Inv (ZJ X scope cl G.objs.size N fp f H2) (YG fp s5.heap) σ6 H8 s8 from I8.pins_of fun p hp=>I8.pin p (Qm _ (Qm _ hp))).turned (it:=f.heap.objs.size) (t':=s8.toks) (fun b o a e=>sb9.extBut b o a e) pD8.2.1 pD8.2.2.1 (.inr (Qe _))
     (fun x c e z=>by
      obtain⟨vc,oc,hoc,hd⟩:=I8.cell x c e;rw[z,pD8.1]at hoc;cases hoc;cases hd)
     fun p hp z=>by
      obtain⟨q1,q2⟩:=ZaF (show p∈YG fp s5.heap by simpa[ZJ]using hp);obtain⟨ob,eb,_⟩:=T.obj _ _ t p.1 q1;exact QU _ (by have:=Qh eb;rw[z]at this;exact this)
    have hk9:∀b∈fp,∀o,s8.heap.get? b=some o->h9.get? b=some o:=fun b a o e=>sb9.extBut b o (fun z=>by
     obtain⟨ob,eb,_⟩:=T.obj _ _ t b a;exact QU _ (by have:=Qh eb;rw[z]at this;exact this)) e
    refine⟨m',hm,i+1,ys++[v8],l++[y],k9,σ6,H8,I9.pins_of fun p hp=>?_,rv.append (.cons r8 .nil),T.keep _ _ _ (back I8).1 hk9,(back I8).2,w8⟩;have e:p=(f.heap.objs.size,{cls:= .type "list",data:= .seq (List.toArray (l++[y])) k9}):=by simpa using hp
    subst e;exact⟨(show h9.get? f.heap.objs.size=some {cls:= .type "list",data:= .seq (List.toArray (l++[y])) k9} by rw[e9];simp),pD8.2.1,pD8.2.2.1,pD8.2.2.2.1,fun v z=>nomatch z⟩
 exact codeAny_compStart_list (loop _ rfl) (T.self _ 0 _ _ _ (T.keep _ _ _ t fun b _ o e=>old b o e) (loop _ rfl))
theorem Zf6:∀(names)(n)(acc),(∀y∈names,y.2≠.cell)->cellsFrom n names acc=acc
 |[],_,_,_=>rfl
 |(x,k)::r,n,acc,h=>by
  have:=h _ (.head _);cases k<;>first|exact Zf6 r n _ fun y a=>h y (.tail _ a)|simp_all
theorem Blk.c{bs:List _}(B:Blk X scope cl N bs):BlkC X scope cl N bs:=⟨B.clos,B.kind,fun y a e=>absurd e (B.cell y a),B.names,B.cl1,B.cl2,B.bs⟩
theorem Blk.cx{bs}(B:Blk X scope cl N bs)(C:Addr)(fp:List _)(s:Shared)(H:Hp):ZJ X scope cl C N fp s H=Z4 X scope cl C N fp s H:=by
 unfold ZJ Z4;rw[Zf6 _ _ _ B.cell];have:(fun x=>decide (scope.names.lookup x=some .cell))=fun _=>_:=funext fun x=>QX fun e=>B.cell _ (QS e) rfl;rw[this]
theorem Zd5{ifs}{pos}{wi}{g}{tt}{te}(B:Blk X scope cl N bs)(hc:X.calm=true)
  (hi:PI X tg iter wi)(hg:∀C fp s H,PG (Z4 X scope cl C N fp s H) tg g) (ht:∀C fp s H,PTs (Z4 X scope cl C N fp s H) ifs tt) (he:∀C fp s H,PE (Z4 X scope cl C N fp s H) elt te)
  (hs:∀x,foldedSetIterable iter X.env x=pure x:=by intro _;rfl):
  PE X (.ListComp elt [⟨tg,iter,ifs,0⟩] scope pos) (tLC bs wi g tt te):=
 Zew B.c hc hi (fun C fp s H=>by rw[B.cx];exact hg C fp s H) (fun C fp s H=>by rw[B.cx];exact ht C fp s H) (fun C fp s H=>by rw[B.cx];exact he C fp s H) hs
theorem Zhl{K}{a}{xs:List V}{g:TG}{tt:TT}{te:TE}{σ:St}{H:Hp}{Q:VK}(Pv:Nat->List V->St->Hp->Prop)(hz:xs.length<=sizeLine)(h0:Pv 0 [] σ H)(hl:∀i ys σ H,i<=xs.length->Pv i ys σ H->SqT K H a xs/\ys.length<=i)
  (hs:∀i x ys σ H,xs[i]?=some x->Pv i ys σ H->g x σ H fun σ3 H3=>tt σ3 H3 fun b H4=>if b=true then te σ3 H4 fun v H5=>Pv (i+1) (ys++[v]) σ3 H5 else Pv (i+1) ys σ3 H4)
  (hd:∀ys σ H,Pv xs.length ys σ H->∀p,H p=none->Q (.ref p) (upd H p (.lst ys))):
  ∃W:Nat->Nat->List V->St->Hp->Prop,(∃m,W 0 m [] σ H)/\∀i m ys σ' H',W i m ys σ' H'->
   ((Itt K a).stop i H'/\ys.length<=sizeLine/\∀p,H' p=none->Q (.ref p) (upd H' p (.lst ys)))\/
   ((Itt K a).go i H'/\ys.length<sizeLine/\∃N:List V->St->Hp->Prop,(∀zs σ2 H2,N zs σ2 H2->∃m',m'<m/\W (i+1) m' zs σ2 H2)/\∀x H2,(Itt K a).yld i H' x H2->g x σ' H2 fun σ3 H3=>tt σ3 H3 fun b H4=>
    if b=true then te σ3 H4 fun v H5=>N (ys++[v]) σ3 H5 else N ys σ3 H4):=by
 refine⟨fun i m ys σ H=>m=xs.length-i/\i<=xs.length/\Pv i ys σ H,⟨xs.length,by simp,QE _,h0⟩,?_⟩;rintro i m ys σ H ⟨rfl,d,p⟩;obtain⟨q,_⟩:=hl i ys σ H d p;by_cases c:i<xs.length
 ·refine .inr ⟨⟨xs,xs[i],q,by simp[c]⟩,by omega,Pv (i+1),fun zs σ' H' f=>⟨xs.length-(i+1),by omega,rfl,c,f⟩,fun x H' y=>?_⟩
  obtain⟨e,y⟩:=y
  grind
 ·have e:i=xs.length:=by omega
  subst e;exact .inl ⟨⟨xs,q,Qe _⟩,by omega,hd ys σ H p⟩
def Zoh(qual:Str)(c':Addr):HO:= .ext fun h=>h.CodeRec (.ref c') qual
def TabI(P:Addr)(pos:Pos)(qual:Str)(H:Hp):Prop:=
 H P=some (.tbl #[])\/∃c',H P=some (.tbl #[rawInt pos.line,rawInt pos.col,.ref c'])/\H c'=some (Zoh qual c')
structure Gr(P:Addr)(pos:Pos)(qual:Str)(H H':Hp):Prop where
 keep:∀b o,H b=some o->b≠P->H' b=some o
 tab:TabI P pos qual H'
theorem Gr.trans{P:Addr}{pos:Pos}{qual:Str}{H H1 H2:Hp}(a:Gr P pos qual H H1)(b:Gr P pos qual H1 H2):Gr P pos qual H H2:=⟨fun c o e n=>b.keep c o (a.keep c o e n) n,b.tab⟩
theorem TabI.same{P}{pos}{qual}{H H'}(h:TabI P pos qual H)(s:Same H H'):TabI P pos qual H':=by
 rcases h with h|⟨a,c,b⟩
 ·exact .inl (s _ _ h)
 ·exact .inr ⟨a,s _ _ c,s _ _ b⟩
theorem Gr.same{P}{pos}{qual}{H H1 H2}(a:Gr P pos qual H H1)(b:Same H1 H2):Gr P pos qual H H2:=⟨fun c o e n=>b c o (a.keep c o e n),a.tab.same b⟩
section
variable{X:Cx}{pins:List (Addr×Obj)}{σ:St}{H:Hp}{s:Shared}{A:Around}{E:Value->Shared->Prop}{a kS:Addr}{b:Bool}{vs:List Value}{kz:List Int}{keys:Array Value}{e e1:Nat}{P:PySem.Fin->Shared->Prop}
theorem Inv.track{D:Addr}{o:HO}(I:Inv X pins σ H s)(f:Zai X pins H D)(hD:X.s₀.heap.objs.size<=D)(new:ObjOk X.prog X.w (upd H D o) s.heap D o):Inv X pins σ (upd H D o) s:=by
 have a:∀c u,H c=some u->c≠D:=fun c u q=>Zq q f.1;refine⟨I.ok,I.os,I.bare,⟨I.base.keep,I.base.slot,fun c b q n j=>?_,I.base.there,fun c g q=>?_,fun c b u q=>?_,fun c i q=>?_⟩,I.loc,I.cell,?_,fun x c q=>?_,fun p e=>?_,fun c u q=>?_,I.len⟩
 ·rw[Zi (Qo (Qs (Qh q) hD))]
  exact I.base.free c b q n j
 ·have z:=I.base.tups c g q
  rw[Zi (a c _ z)];exact z
 ·have z:=I.base.frzs c b u q
  rw[Zi (a c _ z)];exact z
 ·obtain⟨_,z⟩:=I.base.tbls c i q
  exact⟨_,by rw[Zi (a c _ z)];exact z⟩
 ·rw[Zi (Ne.symm f.2.1)];exact I.free
 ·rw[Zi (f.2.2.2.2.1 x c q)];exact I.freeC x c q
 ·obtain⟨m,k,l⟩:=I.pin p e
  exact⟨m,by rw[Zi (f.2.2.2.2.2 p e)];exact k,l⟩
 ·by_cases h:c=D
  ·subst h;rw[Zd]at q;cases q;exact new
  ·rw[Zi h]at q
   exact(I.hok c u q).stay (fun _ _ _ r=>r) (fun d r=>by rw[Zi (a d _ r)];exact r) fun d g r=>by rw[Zi (a d _ r)];exact r
end
def Zhb(R:V->Hp->Prop):List V->Hp->Prop
 |[x],H=>R x H
 |_,_=>False
theorem Zd8{R}:∀{vs}{H},Zhb R vs H->∃x,vs=[x]/\R x H
 |[x],_,h=>⟨x,rfl,h⟩
 |[],_,h=>h.elim
 |_::_::_,_,h=>h.elim
section
variable{X:Cx}
theorem ZU:CallR X (.builtin "isinstance") (fun xs H Q=>E4 fun x n t b=>xs=[x,.ty n]/\JO X.K H x t/\PySem.W.kitOne X.K t (.type n)=some b/\Q (.bl b) H):=by
 intro _ s σ H xs _ Q I r h;obtain⟨x,n,t,b,rfl,ty,e,q⟩:=h;obtain⟨u,_,rfl,d,a⟩:=vals2 r;cases a;exact Zc2 I d ty e fun c=>⟨.bl b,H,I.tok c,rfl,q⟩
theorem Inv.big{pins}{σ:St}{H:Hp}{s:Shared}(I:Inv X pins σ H s):sysModules<s.heap.objs.size:=Nat.lt_trans (by decide) ((I.mod.glob.keeps I.bk).lt)
theorem ZhL{P}{w}{H}(h:Heap)(hb:sysModules<h.objs.size):ObjOk P w H (h.push {cls:= .type "dict",data:= .dict #[]}) h.objs.size (.dK []):=
 ⟨QE _,U6.mpr (Ne.symm (Qo hb)),[],.nil,Heap.DictOf.new h⟩
def tDNewK:TE:=fun _ H Q=>∀p,H p=none->Q (.ref p) (upd H p (.dK []))
theorem Zap{pos}:PE X (.Dict [] [] pos) tDNewK:=fun _ s σ H Q I h=>
 wpAny_Dict_empty ⟨.ref s.heap.objs.size,_,I.laid (fun _ _ q=>Qc _ q) (Qe _) (ZhL s.heap I.big),rfl,h _ (I.hok.fresh (Qe _))⟩
theorem ZaU:∀{xs}{us},xs.length=us.length->(∀(i:Nat) x u,xs[i]?=some x->us[i]?=some u->RelV x u)->Vals xs us
 |[],[],_,_=> .nil
 |[],_::_,h,_=>by simp at h
 |_::_,[],h,_=>by simp at h
 |x::xs,u::us,h,k=> .cons (k 0 x u rfl rfl) (ZaU (by simpa using h) fun i y w b a=>k (i+1) y w (by simpa using b) (by simpa using a))
theorem ZaR(hc:X.calm=true):CallR X (.builtin "max") (fun xs H Q=>∃p,∃ns:List _,xs=[.ref p]/\(SqL X.K H p (ns.map V.int)\/SqT X.K H p (ns.map V.int))/\0<ns.length/\∀M,M∈ns->(∀a∈ns,a<=M)->Q (.int M) H):=by
 intro L s σ H xs us Q I r h;obtain⟨p,ns,rfl,C,hne,q⟩:=h;obtain⟨u,rfl,rx⟩:=vals1 r;cases rx;have J:∀(c:List _)(it:Obj),Vals (ns.map V.int) c->(∀i v,c.toArray[i]?=some v->∃t,v=Value.int (ns.getD i 0) t)->∀v y B,c.toArray[argBest (fun i j=>decide (ns.getD i 0>ns.getD j 0)) (c.toArray.size-1)]?=some v->
   (∀b o,b ∉ [s.heap.objs.size]->(s.heap.push it).get? b=some o->y.get? b=some o)->EP X L σ Q v {s with heap:=y,toks:=B}:=by
  intro c it k D v y B G F;obtain⟨t,rfl⟩:=D _ _ G;have m:c.length=ns.length:=by have:=k.length;simpa using this.symm
  obtain⟨h1,h2⟩:=argBest_gt (fun i=>ns.getD i 0) (c.toArray.size-1);rw[QA,m]at h1 h2;rw[QA,m];refine⟨.int _,H,I.kept fun b o z=>F b o (fun hm=>?_) (Qc _ z),⟨t,rfl⟩,q _ ?_ fun a ha=>?_⟩
  ·rw[Qf.mp hm]at z
   exact QU _ (Qh z)
  ·have g:argBest (fun i j=>decide (ns.getD i 0>ns.getD j 0)) (ns.length-1)<ns.length:=by omega
   rw[Qi,Qb g];exact List.getElem_mem g
  ·obtain⟨j,hj,rfl⟩:=QW ha
   have:=h2 j (by omega);rw[Qi,Qb hj]at this;exact this
 have d:∀c:List Value,Vals (ns.map V.int) c->∀i v,c.toArray[i]?=some v->∃t,v=Value.int (ns.getD i 0) t:=by
  intro c k i v e;have e':c[i]?=some v:=by simpa using e
  have m:c.length=ns.length:=by have:=k.length;simpa using this.symm
  have hi:i<ns.length:=by grind
  obtain⟨u,z,r2⟩:=k.get (i:=i) (x:= .int ns[i]) (by rw[Qx,Qb hi];rfl);rw[e']at z;cases z;obtain⟨t,rfl⟩:=r2;exact⟨t,by simp_all⟩
 have N:∀c:List Value,Vals (ns.map V.int) c->0<c.toArray.size:=fun c k=>by
  have:=k.length;rw[Qq]at this;rw[QA];omega
 rcases C with C|C
 ·obtain⟨c,k,O,hz⟩:=I.list C
  have w:=O.isList;have g:p<s.heap.objs.size:=by obtain⟨_,e,_⟩:=w;exact Qh e
  refine call_max_walk (UN w ⟨s.heap.objs.size,[s.heap.objs.size,p],[s.heap.objs.size],_,_,_,_,rfl,Walks.list (A:=X.A.in1) (I.ok.hd hc) _ p (Qo g) c.toArray,⟨⟨_,Ql _ rfl,rfl,rfl⟩,w.push _⟩,fun b E=>?_,N c k,CmpOf.ints_gt (fun i=>ns.getD i 0) (d c k),fun v y B G F=>J c _ k (d c k) v y B G F⟩);rw[QR];simp[Qn,Qt,Q3]at E;rcases E with rfl|rfl
  ·exact Q7 _
  ·exact Uk g
 ·obtain⟨c,k,O,hz⟩:=I.tuple C
  have w:=O;have g:p<s.heap.objs.size:=by obtain⟨_,e,_⟩:=w;exact Qh e
  refine call_max_walk (UB w ⟨s.heap.objs.size,[s.heap.objs.size,p],[s.heap.objs.size],_,_,_,_,rfl,Walks.tuple (A:=X.A.in1) (I.ok.hd hc) _ p (Qo g) c.toArray,⟨⟨_,Ql _ rfl,rfl,rfl⟩,w.push _⟩,fun b E=>?_,N c k,CmpOf.ints_gt (fun i=>ns.getD i 0) (d c k),fun v y B G F=>J c _ k (d c k) v y B G F⟩);rw[QR];simp[Qn,Qt,Q3]at E;rcases E with rfl|rfl
  ·exact Q7 _
  ·exact Uk g
theorem Yy:fillsNumberSlot (.type "tuple") "mul"=pure false:=
 PySem.fillsNumberSlot_seq F.slot_tuple_mul.lookup (by decide+kernel) F.slot_tuple_rmul.lookup (by decide+kernel)
theorem Jf:seqRepeat? (.type "tuple")=pure (some (.builtin "tuple.__mul__")):=by
 unfold seqRepeat?;rw[PySem.seqSlot_of (name:="__mul__") F.slot_tuple_mul.lookup (by decide+kernel),PySem.seqSlot_of (name:="__rmul__") F.slot_tuple_rmul.lookup (by decide+kernel)];rfl
theorem YJ(a)(t)(l)(items:Array _)(n)(dd:Option _)(sl:Array (Option Value)):
  Meets (Builtin.«int.__rmul__» ⟨[.int a t,.ref l],[]⟩) (fun _ R s=>s.heap.get? l=some {cls:= .type "tuple",dict:=dd,data:= .seq items n,slots:=sl}/\R (.ok (.ret Value.notImplemented)) s):=
 .of_wp fun _ w A R s h=>by obtain⟨_,g,d,_,os⟩:=s;obtain⟨_,h⟩:=h;wp_walk;exact⟨_,rfl,h⟩
theorem Zed(l)(items:Array _)(n:Nat)(dd:Option _)(sl:Array (Option Value))(x:Int)(u:Tok)(hc0:¬(decide (x< -(2^63))||decide (x≥2^63))=true)(hc1:¬(items.isEmpty||x==1)=true)(hc2:¬(decide (x<=0)||items.isEmpty)=true)
  (hc3:¬(items.size:Int)*x>(2^63-1)/8)(hc4:¬Builtin.Tuple.tupleTooMany ((items.size:Int)*x)=true)(hs0:(List.foldl (fun x1 x2=>x1++x2) #[] (List.replicate x.toNat items)).size<=sizeLine):
  Meets (Builtin.«tuple.__mul__» ⟨[.ref l,.int x u],[]⟩) (fun _ R s=>s.heap.get? l=some {cls:= .type "tuple",dict:=dd,data:= .seq items n,slots:=sl}/\R (.ok (.ret (Value.ref s.heap.objs.size))) {s with heap:=s.heap.push {cls:=Value.type "tuple",data:=Data.seq (List.foldl (fun x1 x2=>x1++x2) #[] (List.replicate x.toNat items))},toks:=s.toks}):=
 .of_wp fun _ w A R s h=>by
  obtain⟨_,g,d,_,os⟩:=s;obtain⟨a,h⟩:=h;wp_walk using Ui a;rw[if_neg hc0]
  wp_walk using Ui a
  rw[if_neg hc3]
  wp_walk using Ui a
  exact⟨_,rfl,h⟩
inductive ZlC(K:PySem.W.Frag)(x:V)(y:V)(H:Hp)(Q:VK):Prop
 |mk (l k xs:_) (_:x= .ref l) (_:y= .int k) (_:SqT K H l xs) (_:1<k) (_:k<2^62) (_:xs≠[]) (_:xs.length*k.toNat<=sizeLine) (_:∀p,H p=none->Q (.ref p) (upd H p (.tup (List.replicate k.toNat xs).flatten)))
theorem op_repT:OpR X (binaryOp .Mult) (ZlC X.K):=by
 intro pins s σ H x y v u Q I rx ry h;obtain⟨l,k,xs,rfl,rfl,hS,h1,h2,hne,hz,q⟩:=h;cases rx;obtain⟨t,rfl⟩:=ry;obtain⟨a,r,pl,_⟩:=I.tuple hS;have hl:=r.length;obtain⟨⟨cls,dd,_,i⟩,d,hc,n,hd⟩:=id pl;subst hc hd;have e:a.toArray.size*k.toNat<=sizeLine:=by grind
 have f:List.foldl (fun x1 x2=>x1++x2) #[] (List.replicate k.toNat a.toArray)=(List.replicate k.toNat a).flatten.toArray:=by
  have:=foldl_rep a k.toNat []
  grind
 have g:a.toArray.size*k=((a.toArray.size*k.toNat:Nat)):=by
  grind
 have _:sizeLine<2^60:=by rw[QP];decide
 have lenR:(List.replicate k.toNat a).flatten.length<=sizeLine:=by rw[len_rep,Nat.mul_comm];simpa using e
 refine wpAny_binaryOp_repeat_ref (by decide) ⟨_,d,rfl⟩ (fun s'=>typeIs_int s' k t) Yy F.fills_int_mul UQ Jf F.slot_int_index.lookup
  (UP UQ (typeIs_int s k t) F.entry_int_rmul (F.args_int_rmul_2 _ _) (YJ k t l a.toArray n dd i)
   ⟨d,rfl,⟨_,d,rfl⟩,UP F.slot_tuple_mul ⟨_,d,rfl⟩ F.entry_tuple_mul (F.args_tuple_mul_2 _ _) (Zed l a.toArray n dd i k t ?c0 ?c1 ?c2 ?c3 ?c4 ?c5) ⟨d,?_⟩⟩)
 case c0=>simp;omega
 case c1=>grind
 case c2=>grind
 case c3=>rw[g];omega
 case c4=>rw[g];exact fun z=>absurd (Qr z) (Int.not_lt.mpr (Int.ofNat_le.mpr e))
 case c5=>simp_all
 rw[f];refine⟨.ref _,_,I.laid (t':=s.toks) (o:= .tup (List.replicate k.toNat xs).flatten) (fun b ob q=>Qc _ q) (Qe _) ?_,rfl,q _ I.fresh⟩;exact⟨by simp_all,_,r.rep k.toNat,IsTup.new _ _⟩
end
theorem Z0{H}{d}{o}(h:H d=Option.none):Same H (upd H d o):=fun b u e=>by rw[Zi (Zq e h)];exact e
theorem ZaK{n:Nat}(h:Nat.ble n 1000=true):n<=sizeLine:=by
 have:=Nat.le_of_ble_eq_true h;rw[QP];omega
theorem Yh{n}(h:n<=100000):n<=sizeLine:=by rw[QP];omega
def ZV:Expr->Bool
 | .Starred _ _=>false
 |_=>true
theorem ZY{e}{es}{env}(h:ZV e=true):starEach (e::es) env=(false,eval e env)::starEach es env:=by
 cases e<;>first|rfl|cases h
theorem Zal{env}{pos}:∀{es:List _},es.all ZV=true->(backTo pos (starEach es env)).any (·.1)=false
 |[],_=>rfl
 |e::es,h=>by
  have a:ZV e=true/\es.all ZV=true:=by simp_all
  rw[ZY a.1];have b:=Zal (env:=env) (pos:=pos) a.2;unfold backTo at b⊢
  simp_all
theorem Zc{X}{e}{es}{te}{t}(ha:PE X e te)(hr:PA X es t)(hs:ZV e=true:=by rfl):PA X (e::es) (Zbv te t):=Zfd ha hr (ZY hs)
structure FnE(P:Program)(w:World)(K:PySem.W.Frag)(mg:Str->Option Value)(base:Heap)(x:Str)(ps:List Str)(k:Nat)(sp:Sp):Prop where
 ex:∃f fd,FnOk P w K mg base CX0 k f fd ps sp/\mg x=some (.ref f)/\PySem.W.keepIn K (.ref f)=true/\Binds K fd ps []
theorem FnE.mono{P}{w}{K}{mg}{base}{x}{ps}{j k}{sp:Sp}(F:FnE P w K mg base x ps j sp)(h:j<=k):FnE P w K mg base x ps k sp:=
 let⟨f,c,a,b⟩:=F.ex;⟨f,c,a.mono h,b⟩
theorem ZlH{X}{x}{ps:List _}{k}{sp}{e}{es:List _}{t}{p pos:Pos}(F:FnE X.prog X.w X.K X.mg X.base x ps k sp)(hr:Room k X.A)(ha:PA X (e::es) t)(hg:Gl X x:=by rfl)
  (hdb:(x==("__debug__":Str))=false:=by decide)(he:starEach (e::es) X.env=(false,eval e X.env)::starEach es X.env:=by rfl)(hpl:(backTo pos (starEach es X.env)).any (·.1)=false:=by rfl):
  PE X (.Call (.Name x p) (e::es) [] pos) (ZeS sp [] E0 t):=
 let⟨_,_,a,b,c,d⟩:=F.ex;Zbe a hr hg b c d .nil Zcu ha hdb he hpl
theorem Zs{X}{x}{ps}{k}{sp}{e}{es}{t}{p pos}(F:FnE X.prog X.w X.K X.mg X.base x ps k sp)(hr:Room k X.A)(ha:PA X (e::es) t)(hg:Gl X x:=by rfl)
  (hdb:(x==("__debug__":Str))=false:=by decide)(he:ZV e=true:=by rfl)(hpl:es.all ZV=true:=by rfl):PE X (.Call (.Name x p) (e::es) [] pos) (ZeS sp [] E0 t):=
 ZlH F hr ha hg hdb (ZY he) (Zal hpl)
def ZlE(K:PySem.W.Frag):List V->Hp->VK->Prop:=fun xs H Q=>∃p,∃ns:List Int,xs=[.ref p]/\(SqL K H p (ns.map V.int)\/SqT K H p (ns.map V.int))/\0<ns.length/\∀M,M∈ns->(∀a∈ns,a<=M)->Q (.int M) H
theorem ZeI{K}(hc:X.calm=true)(hK:X.K=K):CallR X (.builtin "max") (ZlE K):=by
 subst hK;exact ZaR hc
def Zlf(t:TA):TE:=fun σ H Q=>t σ H fun xs H1=>Nat.ble xs.length 1000=true/\∀p H',Same H1 H'->H' p=some (.tup xs)->Q (.ref p) H'
def Zlk(t:TA):TE:=fun σ H Q=>t σ H fun xs H1=>Nat.ble xs.length 1000=true/\∀p H',Same H1 H'->H' p=some (.lst xs)->Q (.ref p) H'
section
variable{X:Cx}{e:Expr}{es:List Expr}{te:TE}{t:TA}{pos:Pos}
theorem OpR.weak{f}{r r'}(h:OpR X f r)(k:∀x y H Q,r' x y H Q->r x y H Q):OpR X f r':=fun _ s σ H x y v u Q I b a q=>h _ s σ H x y v u Q I b a (k _ _ _ _ q)
theorem CallR.weak{f}{r r'}(h:CallR X f r)(k:∀xs H Q,r' xs H Q->r xs H Q):CallR X f r':=fun _ s σ H xs a Q I r q=>h _ s σ H xs a Q I r (k _ _ _ q)
theorem Z1{x1}(h:PA X es t):PE X (.Tuple es x1 pos) (Zlf t):=by
 refine fun a s σ H Q I g=>wpAny_Tuple_spliced (thn (h pos a s σ H _ I g) fun f d⟨_,_,c,r,z,q⟩=>⟨by rw[<-r.length];exact ZaK z,.ref d.heap.objs.size,_,c.laid (fun b u e=>Qc _ e) (Qe _) ?_,rfl,q _ _ (Z0 (c.hok.fresh (Qe _))) Zd⟩);exact⟨ZaK z,f,r,⟨_,Ql _ rfl,rfl,_,rfl⟩⟩
theorem Zao(h:PA X es t):PE X (.List es pos) (Zlk t):=by
 refine fun a s σ H Q I g=>wpAny_List_spliced (thn (h pos a s σ H _ I g) fun f d⟨_,_,c,r,z,q⟩=>⟨by rw[<-r.length];exact ZaK z,.ref d.heap.objs.size,_,c.laid (fun b u e=>Qc _ e) (Qe _) ?_,rfl,q _ _ (Z0 (c.hok.fresh (Qe _))) Zd⟩);exact⟨ZaK z,f,0,r,Ql _ rfl⟩
inductive rCatLS(x:V)(y:V)(H:Hp)(Q:VK):Prop
 |mk (a b xs ys:_) (_:x= .ref a) (_:y= .ref b) (_:H a=some (.lst xs)) (_:H b=some (.lst ys)) (_:xs.length+ys.length<=100000) (_:∀p H',Same H H'->H' p=some (.lst (xs++ys))->Q (.ref p) H')
theorem Zd7:OpR X (binaryOp .Add) rCatLS:=op_cat.weak fun x y H Q⟨a,b,g,f,e,d,i,h,z,q⟩=>⟨a,b,g,f,e,d,i,h,Yh z,fun p c=>q p _ (Z0 c) Zd⟩
inductive rRepTS(x:V)(y:V)(H:Hp)(Q:VK):Prop
 |mk (l k xs:_) (_:x= .ref l) (_:y= .int k) (_:H l=some (.tup xs)) (_:1<k) (_:k<100000) (_:xs≠[]) (_:xs.length*k.toNat<=100000) (_:∀p H',Same H H'->H' p=some (.tup (List.replicate k.toNat xs).flatten)->Q (.ref p) H')
theorem ZgY:OpR X (binaryOp .Mult) rRepTS:=op_repT.weak fun x y H Q⟨l,k,e,d,c,h,b,_,a,z,q⟩=>⟨l,k,e,d,c,SqT.of h,b,by omega,a,Yh z,fun p f=>q p _ (Z0 f) Zd⟩
theorem Z6:CallR X (.type "tuple") (fun xs H Q=>∃p ys,xs=[.ref p]/\(H p=some (.lst ys)\/H p=some (.tup ys))/\∀l H',Same H H'->H' l=some (.tup ys)->Q (.ref l) H'):=
 call_tuple_of.weak fun xs H Q⟨p,ys,e,h,q⟩=>⟨p,ys,e,by
  rcases h with h|h
  ·exact .inl ⟨SqL.of h,fun l a=>q l _ (Z0 a) Zd⟩
  ·exact .inr ⟨SqT.of h,q p H (Same.refl H) h⟩⟩
end
def Jb(t:TE):Prop:=∀σ H(Q Q'),(∀v H',Q v H'->Q' v H')->t σ H Q->t σ H Q'
theorem Z9(i):Jb (Zaj i):=fun σ H Q _ k⟨v,e,q⟩=>⟨v,e,k _ _ q⟩
theorem JX(v):Jb (tC v):=fun σ H Q _ k q=>k _ _ q
theorem YI{K}{ta tb}(ha:Jb ta)(hb:Jb tb):Jb (tOp (ZfP K) ta tb):=fun σ H Q _ k q=>ha σ H _ _ (fun x c q=>hb σ c _ _ (fun y _⟨p,d,i,v,b,e,h,a,q⟩=>⟨p,d,i,v,b,e,h,a,k _ _ q⟩) q) q
def ZjE(K:PySem.W.Frag)(bs:List (Option Nat))(tl:TE)(g:TG)(tt:TT)(te:TE):TE:=fun σ H Q=>tl σ H fun x H1=>∃a xs,x= .ref a/\SqT K H1 a xs/\xs.length<=100000/\∃Pv:Nat->List V->St->Hp->Prop,Pv 0 [] (bst bs σ) H1/\
 (∀i ys σ H,i<=xs.length->Pv i ys σ H->SqT K H a xs/\ys.length<=i)/\
 (∀i x ys σ H,xs[i]?=some x->Pv i ys σ H->g x σ H fun σ3 H3=>tt σ3 H3 fun b H4=>if b=true then te σ3 H4 fun v H5=>Pv (i+1) (ys++[v]) σ3 H5 else Pv (i+1) ys σ3 H4)/\
 ∀ys σ H,Pv xs.length ys σ H->∀p H',Same H H'->H' p=some (.lst ys)->Q (.ref p) H'
theorem Zb7{X}{scope}{cl}{N}{bs}{tg iter elt}{ifs}{pos}{tl}{g}{tt}{te}(B:Blk X scope cl N bs)(hc:X.calm=true)
  (hl:PE X iter tl)(hm:Jb tl)(hg:∀C fp s H,PG (Z4 X scope cl C N fp s H) tg g) (ht:∀C fp s H,PTs (Z4 X scope cl C N fp s H) ifs tt) (he:∀C fp s H,PE (Z4 X scope cl C N fp s H) elt te)
  (hs:∀x,foldedSetIterable iter X.env x=pure x:=by intro _;rfl):PE X (.ListComp elt [⟨tg,iter,ifs,0⟩] scope pos) (ZjE X.K bs tl g tt te):=by
 refine fun _ s σ H Q I h=>@Zd5 X _ cl N bs tg _ _ _ _ _ g tt te B hc (@Y8 X _ _ _ hl) hg ht he hs _ s σ H Q I (hm σ H _ _ (fun x _ h=>?_) h);obtain⟨a,i,e,j,d,k,o,f,l,n⟩:=h;exact⟨a,e,⟨i,j⟩,Zhl k (Yh d) o f l fun m σ H c p b=>n m σ H c p _ (Z0 b) Zd⟩
def JR(t:TA):Prop:=∀σ H(Q Q'),(∀v H',Q v H'->Q' v H')->t σ H Q->t σ H Q'
theorem Ye:JR tNil:=fun σ H Q _ k q=>k _ _ q
theorem Z7{te}{tr}(ha:Jb te)(hr:JR tr):JR (Zbv te tr):=fun σ H Q _ k q=>ha σ H _ _ (fun x a q=>hr σ a _ _ (fun _ _ q=>k _ _ q) q) q
def ZnD(K:PySem.W.Frag):List V->Hp->VK->Prop:=fun xs H Q=>∃p ys,xs=[.ref p]/\(SqL K H p ys\/SqT K H p ys)/\Q (.int ys.length) H
theorem Zgt{K}(hK:X.K=K):CallR X (.builtin "len") (ZnD K):=by
 subst hK;exact Zr
theorem ZbG{lo}{n}{g:TG}{tt:TT}{te:TE}{σ}{H}{Q:VK}(Pv:Nat->List V->St->Hp->Prop)(hz:n<=sizeLine)(h0:Pv 0 [] σ H)(hl:∀i ys σ H,i<=n->Pv i ys σ H->ys.length<=i)
  (hs:∀i ys σ H,i<n->Pv i ys σ H->g (.int (lo+i)) σ H fun σ3 H3=>tt σ3 H3 fun b H4=>if b=true then te σ3 H4 fun v H5=>Pv (i+1) (ys++[v]) σ3 H5 else Pv (i+1) ys σ3 H4)
  (hd:∀ys σ H,Pv n ys σ H->∀p,H p=none->Q (.ref p) (upd H p (.lst ys))):
  ∃W:Nat->Nat->List V->St->Hp->Prop,(∃m,W 0 m [] σ H)/\∀i m ys σ' H',W i m ys σ' H'->
   ((Itr lo n).stop i H'/\ys.length<=sizeLine/\∀p,H' p=none->Q (.ref p) (upd H' p (.lst ys)))\/
   ((Itr lo n).go i H'/\ys.length<sizeLine/\∃N:List V->St->Hp->Prop,(∀zs σ2 H2,N zs σ2 H2->∃m',m'<m/\W (i+1) m' zs σ2 H2)/\∀x H2,(Itr lo n).yld i H' x H2->g x σ' H2 fun σ3 H3=>tt σ3 H3 fun b H4=>
    if b=true then te σ3 H4 fun v H5=>N (ys++[v]) σ3 H5 else N ys σ3 H4):=by
 refine⟨fun i m ys σ H=>m=n-i/\i<=n/\Pv i ys σ H,⟨n,by simp,QE _,h0⟩,?_⟩;rintro i m ys σ H ⟨rfl,c,p⟩;have _:=hl i ys σ H c p;by_cases a:i<n
 ·refine .inr ⟨a,by omega,_,fun zs σ' H' d=>⟨_,by omega,rfl,a,d⟩,fun x H' y=>?_⟩
  obtain⟨e,y⟩:=y
  simp_all
 ·have e:i=n:=by omega
  subst e;exact .inl ⟨Qe _,by omega,hd ys σ H p⟩
def ZjF(bs:List (Option Nat))(ta:TA)(g:TG)(tt:TT)(te:TE):TE:=fun σ H Q=>ta σ H fun vs H1=>∃n:Nat,vs=[.int n]/\n<=100000/\∃Pv:Nat->List V->St->Hp->Prop,Pv 0 [] (bst bs σ) H1/\
 (∀i ys σ H,i<=n->Pv i ys σ H->ys.length<=i)/\
 (∀i ys σ H,i<n->Pv i ys σ H->g (.int (0+i)) σ H fun σ3 H3=>tt σ3 H3 fun b H4=>if b=true then te σ3 H4 fun v H5=>Pv (i+1) (ys++[v]) σ3 H5 else Pv (i+1) ys σ3 H4)/\
 ∀ys σ H,Pv n ys σ H->∀p H',Same H H'->H' p=some (.lst ys)->Q (.ref p) H'
theorem Zkm{X}{scope}{cl}{N}{bs}{tg a elt}{ifs}{p pos' pos}{ta}{g}{tt}{te}(B:Blk X scope cl N bs)(hc:X.calm=true)
  (hgl:Gl X "range")(hmr:X.mg "range"=none)(ha:PA X [a] ta)(hm:JR ta)(hpl:ZV a=true)(hg:∀C fp s H,PG (Z4 X scope cl C N fp s H) tg g) (ht:∀C fp s H,PTs (Z4 X scope cl C N fp s H) ifs tt) (he:∀C fp s H,PE (Z4 X scope cl C N fp s H) elt te)
  (hs:∀x,foldedSetIterable (.Call (.Name "range" p) [a] [] pos') X.env x=pure x:=by intro _;rfl):PE X (.ListComp elt [⟨tg,.Call (.Name "range" p) [a] [] pos',ifs,0⟩] scope pos) (ZjF bs ta g tt te):=by
 refine fun _ s σ H Q I h=>@Zd5 X _ cl N bs tg _ _ _ _ _ g tt te B hc (@ZZ X tg a ta p pos' hgl hmr ha (ZY hpl)) hg ht he hs _ s σ H Q I (hm σ H _ _ (fun _ _ h=>?_) h);obtain⟨n,e,i,d,f,c,l,j⟩:=h;exact⟨n,e,by simp,by omega,ZbG d (Yh i) f c l fun k σ H m p b=>j k σ H m p _ (Z0 b) Zd⟩
theorem Zfl{K}{a}{xs}{g:TG}{tt:TT}{te:TE}{σ}{H}{Q:VK}(Pv:Nat->List V->St->Hp->Prop)(hz:xs.length<=sizeLine)(h0:Pv 0 [] σ H)(hl:∀i ys σ H,i<=xs.length->Pv i ys σ H->SqL K H a xs/\ys.length<=i)
  (hs:∀i x ys σ H,xs[i]?=some x->Pv i ys σ H->g x σ H fun σ3 H3=>tt σ3 H3 fun b H4=>if b=true then te σ3 H4 fun v H5=>Pv (i+1) (ys++[v]) σ3 H5 else Pv (i+1) ys σ3 H4)
  (hd:∀ys σ H,Pv xs.length ys σ H->∀p,H p=none->Q (.ref p) (upd H p (.lst ys))):
  ∃W:Nat->Nat->List V->St->Hp->Prop,(∃m,W 0 m [] σ H)/\∀i m ys σ' H',W i m ys σ' H'->
   ((Itl K a).stop i H'/\ys.length<=sizeLine/\∀p,H' p=none->Q (.ref p) (upd H' p (.lst ys)))\/
   ((Itl K a).go i H'/\ys.length<sizeLine/\∃N:List V->St->Hp->Prop,(∀zs σ2 H2,N zs σ2 H2->∃m',m'<m/\W (i+1) m' zs σ2 H2)/\∀x H2,(Itl K a).yld i H' x H2->g x σ' H2 fun σ3 H3=>tt σ3 H3 fun b H4=>
    if b=true then te σ3 H4 fun v H5=>N (ys++[v]) σ3 H5 else N ys σ3 H4):=by
 refine⟨fun i m ys σ H=>m=xs.length-i/\i<=xs.length/\Pv i ys σ H,⟨xs.length,by simp,QE _,h0⟩,?_⟩;rintro i m ys σ H ⟨rfl,d,p⟩;obtain⟨q,_⟩:=hl i ys σ H d p;by_cases c:i<xs.length
 ·refine .inr ⟨⟨xs,xs[i],q,by simp[c]⟩,by omega,_,fun zs σ' H' f=>⟨_,by omega,rfl,c,f⟩,fun x H' y=>?_⟩
  obtain⟨e,y⟩:=y
  grind
 ·have e:i=xs.length:=by omega
  subst e;exact .inl ⟨⟨xs,q,Qe _⟩,by omega,hd ys σ H p⟩
def Zll(K:PySem.W.Frag)(bs:List (Option Nat))(tl:TE)(g:TG)(tt:TT)(te:TE):TE:=fun σ H Q=>tl σ H fun x H1=>∃a xs,x= .ref a/\SqL K H1 a xs/\xs.length<=100000/\∃Pv:Nat->List V->St->Hp->Prop,Pv 0 [] (bst bs σ) H1/\
 (∀i ys σ H,i<=xs.length->Pv i ys σ H->SqL K H a xs/\ys.length<=i)/\
 (∀i x ys σ H,xs[i]?=some x->Pv i ys σ H->g x σ H fun σ3 H3=>tt σ3 H3 fun b H4=>if b=true then te σ3 H4 fun v H5=>Pv (i+1) (ys++[v]) σ3 H5 else Pv (i+1) ys σ3 H4)/\
 ∀ys σ H,Pv xs.length ys σ H->∀p H',Same H H'->H' p=some (.lst ys)->Q (.ref p) H'
theorem ZgR{tg iter elt}{ifs}{pos}{tl}{g}{tt}{te}(B:Blk X scope cl N bs)(hc:X.calm=true)
  (hl:PE X iter tl)(hm:Jb tl)(hg:∀C fp s H,PG (Z4 X scope cl C N fp s H) tg g) (ht:∀C fp s H,PTs (Z4 X scope cl C N fp s H) ifs tt) (he:∀C fp s H,PE (Z4 X scope cl C N fp s H) elt te)
  (hs:∀x,foldedSetIterable iter X.env x=pure x:=by intro _;rfl):PE X (.ListComp elt [⟨tg,iter,ifs,0⟩] scope pos) (Zll X.K bs tl g tt te):=by
 refine fun _ s σ H Q I h=>@Zd5 X _ cl N bs tg _ _ _ _ _ g tt te B hc (@JI X _ _ _ hl) hg ht he hs _ s σ H Q I (hm σ H _ _ (fun x _ h=>?_) h);obtain⟨a,i,e,j,d,k,o,f,l,n⟩:=h;exact⟨a,e,⟨i,j⟩,Zfl k (Yh d) o f l fun m σ H c p b=>n m σ H c p _ (Z0 b) Zd⟩
section
variable{X:Cx}
inductive Zjt(K:PySem.W.Frag)(xs:List V)(H:Hp)(Q:VK):Prop
 |mk (p:_) (ns:List Int) (_:xs=[.ref p]) (_:(SqL K H p (ns.map V.int)\/SqT K H p (ns.map V.int))) (_:0<ns.length) (_:∀M,M∈ns->(∀a∈ns,M<=a)->Q (.int M) H)
theorem Zc9(hc:X.calm=true):CallR X (.builtin "min") (Zjt X.K):=by
 intro pins s σ H xs us Q I r h;obtain⟨p,g,rfl,hp,hne,q⟩:=h;obtain⟨u,rfl,rx⟩:=vals1 r;cases rx;have fin:∀(c)(it),Vals (g.map V.int) c->(∀i v,c.toArray[i]?=some v->∃t,v=Value.int (g.getD i 0) t)->∀v h' tk,c.toArray[argBest (fun i j=>decide (g.getD i 0<g.getD j 0)) (c.toArray.size-1)]?=some v->
   (∀b o,b ∉ [s.heap.objs.size]->(s.heap.push it).get? b=some o->h'.get? b=some o)->EP X pins σ Q v {s with heap:=h',toks:=tk}:=by
  intro c it k hval v h' tk hP hk;obtain⟨t,rfl⟩:=hval _ _ hP;have hlen:c.length=g.length:=by have:=k.length;simpa using this.symm
  obtain⟨h1,h2⟩:=argBest_lt (fun i=>g.getD i 0) (c.toArray.size-1);rw[QA,hlen]at h1 h2;rw[QA,hlen];refine⟨.int _,H,I.kept fun b o e2=>hk b o (fun hm=>?_) (Qc _ e2),⟨t,rfl⟩,q _ ?_ fun a ha=>?_⟩
  ·rw[Qf.mp hm]at e2
   exact QU _ (Qh e2)
  ·have m:argBest (fun i j=>decide (g.getD i 0<g.getD j 0)) (g.length-1)<g.length:=by omega
   rw[Qi,Qb _];exact List.getElem_mem m
  ·obtain⟨j,hj,rfl⟩:=QW ha
   have:=h2 j (by omega);rw[Qi (i:=j),Qb hj]at this;exact this
 have d:∀c:List _,Vals (g.map V.int) c->∀i v,c.toArray[i]?=some v->∃t,v=Value.int (g.getD i 0) t:=by
  intro c k i v e;have e':c[i]?=some v:=by simpa using e
  have hlen:c.length=g.length:=by have:=k.length;simpa using this.symm
  have hi:i<g.length:=by grind
  obtain⟨u,e2,r2⟩:=k.get (by rw[Qx,Qb hi];rfl);rw[e']at e2;cases e2;obtain⟨t,rfl⟩:=r2;exact⟨t,by simp_all⟩
 have pos:∀c:List Value,Vals (g.map V.int) c->0<c.toArray.size:=fun c k=>by
  have:=k.length;rw[Qq]at this;rw[QA];omega
 rcases hp with hp|hp
 ·obtain⟨c,k,pl,hz⟩:=I.list hp
  have hl:=pl.isList;have m:p<s.heap.objs.size:=by obtain⟨_,e,_⟩:=hl;exact Qh e
  refine call_min_walk (UN hl ⟨s.heap.objs.size,[s.heap.objs.size,p],[s.heap.objs.size],_,_,_,_,rfl,Walks.list (A:=X.A.in1) (I.ok.hd hc) _ p (Qo m) c.toArray,⟨⟨_,Ql _ rfl,rfl,rfl⟩,hl.push _⟩,fun b hb=>?_,pos c k,CmpOf.ints_lt (fun i=>g.getD i 0) (d c k),fun v h' tk hP hk=>fin c _ k (d c k) v h' tk hP hk⟩);rw[QR];simp[Qn,Qt,Q3]at hb;rcases hb with rfl|rfl
  ·exact Q7 _
  ·grind
 ·obtain⟨c,k,pl,hz⟩:=I.tuple hp
  have hl:=pl;have m:p<s.heap.objs.size:=by obtain⟨_,e,_⟩:=hl;exact Qh e
  refine call_min_walk (UB hl ⟨s.heap.objs.size,[s.heap.objs.size,p],[s.heap.objs.size],_,_,_,_,rfl,Walks.tuple (A:=X.A.in1) (I.ok.hd hc) _ p (Qo m) c.toArray,⟨⟨_,Ql _ rfl,rfl,rfl⟩,hl.push _⟩,fun b hb=>?_,pos c k,CmpOf.ints_lt (fun i=>g.getD i 0) (d c k),fun v h' tk hP hk=>fin c _ k (d c k) v h' tk hP hk⟩);rw[QR];simp[Qn,Qt,Q3]at hb;rcases hb with rfl|rfl
  ·exact Q7 _
  ·grind
theorem ZeH{K}(hc:X.calm=true)(hK:X.K=K):CallR X (.builtin "min") (Zjt K):=by
 subst hK;exact Zc9 hc
end
end L2
namespace PySem
open Sem (wp)
open AutoSeq1 (wpAny_loadPart')
section
variable{prog:Program}{w:World}{A:Around}{E:Value->Shared->Prop}{s:Shared}
theorem YL{it l}{i}{items}{x}{Q}(hit:s.heap.IsTupleIter it l i)
  (hl:s.heap.IsTuple l items)(hx:items[i]?=some x)
  (hQ:∀h',h'.IsTupleIter it l (i+1)->Heap.SameBut it s.heap h'->Q x {s with heap:=h'}):
  wpAny (model prog w) A (Builtin.SmallTypes.nextOf (.ref it)) Q E s:=by
 obtain⟨o,b,e,a⟩:=id hit;obtain⟨_,d,_,_,c⟩:=hl;refine Qa (UO hit.typeIs F.slot_tuple_iterator_next
  (UJ F.slot_tuple_iterator_next hit.typeIs F.entry_tuple_iterator_next ?_ (F.args_tuple_iterator_next_1 _)))
 show wpAny _ _ (field (.ref it) 0>>=_) _ _ s;refine Qa (Us b a (x:= .ref l) rfl (Qa (Us b a rfl (Qa (Q9 d c ?_)))));simp[Q1,hx];exact Qa (wpAny_setField b a (by simp) (Qg ⟨x,rfl,Qg (hQ _ ⟨_,Uh _ b (Obj.isFreed_of_fields (Obj.data_mapFields a _)),(Obj.cls_mapFields ..).trans e,by
  rw[Obj.data_mapFields a];simp[rawInt]⟩ (Heap.SameBut.update ..))⟩))
theorem Yz{it l}{i}{items}{Q}(hh:A.handled=none)
  (hit:s.heap.IsTupleIter it l i)(hl:s.heap.IsTuple l items)(hx:items[i]?=none)
  (hE:∀h' e,Heap.ExtBut it s.heap h'->(∃o,h'.get? e=some o/\o.cls= .type "StopIteration")->E (.ref e) {s with heap:=h'}):
  wpAny (model prog w) A (Builtin.SmallTypes.nextOf (.ref it)) Q E s:=by
 obtain⟨o,c,_,b⟩:=id hit;obtain⟨_,a,_,_,d⟩:=hl;refine Qa (UO hit.typeIs F.slot_tuple_iterator_next
  (UJ F.slot_tuple_iterator_next hit.typeIs F.entry_tuple_iterator_next ?_ (F.args_tuple_iterator_next_1 _)))
 show wpAny _ _ (field (.ref it) 0>>=_) _ _ s;refine Qa (Us c b (x:= .ref l) rfl (Qa (Us c b rfl (Qa (Q9 a d ?_)))));simp[Q1,hx];refine Qa (wpAny_rule (Qa (wpAny_setField c b (by simp) (Qa ?_))));refine Qa (UF (Qa (wpAny_of_eq (by first|rfl|omega) (UF (Qa (wpAny_handled ?_)) (by size_fits)))) (by size_fits))
 first|rw[hh]|rw[hh]
 exact Qa (Qg (wpAny_throw (hE _ _ (((Heap.SameBut.update ..).extBut.push _).push _) ⟨_,Ql _ rfl,rfl⟩)))
end
theorem Draws.tupleD{prog}{w}{A}(hh:A.handled=none)(it l)(hne:l≠it)(items):
  Draws prog w A it [it,l] items.size (fun i v=>items[i]?=some v) (fun i h=>h.IsTupleIter it l i/\h.IsTuple l items)where
 live:=fun _ _ a=>let⟨o,d,_⟩:=a.1;⟨o,d⟩
 frame:=fun _ _ _ a e=>⟨let⟨o,d,r⟩:=a.1;⟨o,e it (by simp) o d,r⟩,let⟨o,d,r⟩:=a.2;⟨o,e l (by simp) o d,r⟩⟩
 item:=fun i s Q E f a j=>YL a.1 a.2 (x:=items[i]) (by simp[f]) fun g b c=>j _ g _ (by simp[f]) ⟨b,a.2.extBut c.extBut hne⟩ c
 done:=fun s Q E a k=>Yz hh a.1 a.2 (by simp) k
theorem JA(l)(items:Array _)(n:Nat)(dct:Option _)(sl:Array (Option Value)):
  Meets (Builtin.«enumerate.__new__» ⟨[.type "enumerate",.ref l],[]⟩) (fun _ R s=>s.heap.get? l=some {cls:= .type "tuple",dict:=dct,data:= .seq items n,slots:=sl}/\
   R (.ok (.ret (.ref (s.heap.push {cls:= .type "tuple_iterator",data:= .fields #[.ref l,.int 0 0]}).objs.size)))
    {s with heap:=(s.heap.push {cls:= .type "tuple_iterator",data:= .fields #[.ref l,.int 0 0]}).push {cls:= .type "enumerate",data:= .fields #[.none,.bool false,.ref s.heap.objs.size,rawInt 0,.none,.none]}}):=
 .of_wp fun _ w A R s h=>by
  obtain⟨e,g,d,f,os⟩:=s;obtain⟨a,h⟩:=h;have _:=sub_enumerate;have b:Heap.IsTuple (Shared.heap ⟨e,g,d,f,os⟩) l items:=⟨_,a,rfl,n,rfl⟩
  wp_walk using Ui a
  refine wpAny_stack_any fun _=>Qg ?_;split
  ·rename_i c _ _ _ _ _
   cases(c==Value.type "enumerate")
   ·wp_walk using Ui a,UB b
    exact⟨_,rfl,h⟩
   ·wp_walk using Ui a,UB b
    exact⟨_,rfl,h⟩
  ·wp_walk using Ui a,UB b
   exact⟨_,rfl,h⟩
section
variable{prog:Program}{w:World}{A:Around}{E:Value->Shared->Prop}{s:Shared}
theorem JD{l}{items}{Q}(hL:s.heap.IsTuple l items)
  (h:∀h',IsEnum h' (s.heap.objs.size+1) s.heap.objs.size 0 .none->h'.IsTupleIter s.heap.objs.size l 0->h'.objs.size=s.heap.objs.size+2->
   (∀b o,s.heap.get? b=some o->h'.get? b=some o)->Q (.ref (s.heap.objs.size+1)) {s with heap:=h'}):
  wpAny (model prog w) A (call (.type "enumerate") [.ref l]) Q E s:=by
 obtain⟨⟨c,i,dt,sl⟩,p,k,n,j⟩:=hL;replace k:=k;replace j:=j;subst k j;refine callType_new F.called_enumerate (by decide) (F.typeCall_enumerate_1 _) (F.newCall_enumerate_1 _) (fun obj=>F.args_object_init_2 _ _) F.entry_enumerate_new
  (JA l items n i sl) ⟨p,?_⟩
 have hz:(s.heap.push {cls:= .type "tuple_iterator",data:= .fields #[.ref l,.int 0 0]}).objs.size=s.heap.objs.size+1:=QR ..;rw[hz];have m:IsEnum ((s.heap.push {cls:= .type "tuple_iterator",data:= .fields #[.ref l,.int 0 0]}).push
   {cls:= .type "enumerate",data:= .fields #[.none,.bool false,.ref s.heap.objs.size,rawInt 0,.none,.none]}) (s.heap.objs.size+1) s.heap.objs.size 0 .none:=by
  have:=Ql (s.heap.push {cls:= .type "tuple_iterator",data:= .fields #[.ref l,.int 0 0]})
   (o:={cls:= .type "enumerate",data:= .fields #[.none,.bool false,.ref s.heap.objs.size,rawInt 0,.none,.none]}) rfl
  (simp_all;omega)
 refine⟨⟨_,m,rfl⟩,h _ m ⟨_,Qc _ (Ql _ rfl),rfl,rfl⟩ (by simp_all) fun b o x=>Qc _ (Qc _ x)⟩
end
end PySem
namespace L2
open PySem PySem.Spec PyProof.Rows
theorem Inv.turnedL{X}{pins}{σ:St}{H}{s}{h'}{t'}{ch:List _}(I:Inv X pins σ H s)(k:∀b o,b ∉ ch->s.heap.get? b=some o->h'.get? b=some o) (hf:∀b∈ch,Zai X pins H b):Inv X pins σ H {s with heap:=h',toks:=t'}:=by
 have _:∀b u,H b=some u->b ∉ ch:=fun b u e z=>by rw[(hf b z).1]at e;cases e
 refine I.step (fun b d=>⟨(hf b d).2.2.2.1,(hf b d).2.1,(hf b d).2.2.2.2.1,(hf b d).2.2.2.2.2⟩) (fun b o _ _ a e _=>k b o a e) (fun b o _ _ a e _=>⟨_,k b o a e⟩) (fun _ _ _ _ n=>n)
  (fun b o a e=>⟨o,k b o a e⟩) (fun _ _ e=>e) (fun _ _ _ e=>e) (fun b _ e=>⟨#[],by rw[e];simp⟩) (fun m f=>?_) (fun b u e=>?_) I.bare
 ·obtain⟨o,h,g,i,r⟩:=f
  exact⟨o,h,g,k _ o (fun z=>(hf _ z).2.1 rfl) i,r⟩
 ·refine(I.hok b u e).stay (fun c v a q=>k c v ?_ q) (fun _ q=>q) fun _ _ q=>q
  grind
def Ite(K:PySem.W.Frag)(a:Addr):It:=
 ⟨fun i H=>∃xs x,SqT K H a xs/\xs[i]?=some x,fun i H x H'=>∃T y,x= .ref T/\H T=none/\H'=upd H T (.tup [.int i,y])/\∀xs,SqT K H a xs->xs[i]?=some y,fun i H=>∃xs,SqT K H a xs/\xs.length<=i⟩
theorem ZfE{P}{w}{K}{elts}{x1}{pos}(a e it)(hne:e≠it):
  Turn P w K (.Tuple elts x1 pos) (Ite K a) [e,it] e (fun i h=>(∃old,IsEnum h e it i old)/\h.IsTupleIter it a i)where
 mem:=by simp
 obj:=fun i h st b c=>by
  obtain⟨⟨old,d⟩,o,l,hc,hd⟩:=st;rcases Qn.mp c with rfl|c
  ·exact⟨_,d,fun v z=>nomatch z⟩
  ·grind
 keep:=fun i h h' st k=>by
  obtain⟨⟨old,d⟩,o,l,r⟩:=st;exact⟨⟨_,k e (by simp) _ d⟩,o,k it (by simp) o l,r⟩
 item:=by
  intro X hP hw hK hc i pins s σ H E I y st hg;subst hP hw hK;obtain⟨xs,x,hq,hx⟩:=hg;obtain⟨t,rv,p,hz⟩:=I.tuple hq;obtain⟨u,hu,ru⟩:=rv.get hx;obtain⟨⟨old,d⟩,g⟩:=st;have fe:=y e (by simp);have ht:=p;have hlt:i<t.toArray.size:=by
   rw[QA];exact(Qd.mp hu).1
  have hai:a≠it:=fun z=>by
   obtain⟨o,l,h1,_⟩:=ht;obtain⟨o',j,h2,_⟩:=g;rw[z,j]at l;cases l;rw[h2]at h1;exact absurd (Value.type.inj h1) (by decide)
  have hae:e≠a:=fun z=>by
   obtain⟨o,l,h1,_⟩:=ht;have m:s.heap.get? e=_:=d;rw[z,l]at m;cases m;exact absurd (Value.type.inj h1) (by decide)
  refine wpAny_pyNext_enum_itemD (Draws.tupleD (by simp[I.ok.hd hc]) it a hai _) d ⟨g,ht⟩ hlt hne (by simp_all) fun x' h' tk hP l hs' hT hsz hk=>?_;have ex:x'=u:=by
   simp_all
  subst ex;refine⟨_,rfl,wpAny_letOwnedTupleGo_enum l fun h2 he2 sb=>?_⟩;have hn:=I.hok.fresh (Qe _);have A:=Uo (Qh d);refine⟨.ref s.heap.objs.size,_,(Inv.turnedL (ch:=[e]) (show Inv X _ σ H _ from I.turnedL (ch:=[e,it]) (fun b o c q=>hk b o (fun z=>c (by simp[z])) (fun z=>c (by simp[z])) q) fun b c=>y b c) (fun b o c q=>(sb.2 b (fun z=>c (by simp[z]))).trans q) fun b c=>by rw[Qf.mp c];exact fe).track (I.fpOk (Qe _) hn) I.sz ?_,rfl,⟨_,x,rfl,hn,rfl,fun ys hy=>by rw[I.tuple_inj hy hq];exact hx⟩,⟨⟨x',by simpa using he2⟩,?_⟩,fun b c=>?_⟩
  ·exact⟨ZaK rfl,[.int i tk,x'],.cons ⟨tk,rfl⟩ (.cons ru .nil),⟨_,((sb.2 _ A).trans hT),rfl,_,rfl⟩⟩
  ·obtain⟨o,j,r⟩:=hs'.1
   exact⟨o,(sb.2 _ (Ne.symm hne)).trans j,r⟩
  ·rcases Qn.mp c with rfl|c
   ·rw[Zi (Ne.symm A)];exact fe.1
   ·rw[Qf.mp c,Zi]
    ·exact(y it (by simp)).1
    ·obtain⟨o,j,_⟩:=g
     exact Qo (Qh j)
 done:=by
  intro X hP hw hK hc i pins s σ H E I y st hg;subst hP hw hK;obtain⟨xs,hq,hx⟩:=hg;obtain⟨t,rv,p,hz⟩:=I.tuple hq;obtain⟨⟨old,d⟩,g⟩:=st;have hl:=rv.length;have hT:s.TypeIs (.ref e) "enumerate":=⟨_,d,rfl⟩;unfold pyNext;refine Qa (wpAny_attempt (UO (name:=Str.ofString "__next__") hT F.slot_enumerate_next
   (UJ F.slot_enumerate_next hT F.entry_enumerate_next ?_ (F.args_enumerate_next_1 _))))
  show wpAny _ _ (field (.ref e) 2>>=_) _ _ _;refine Qa (Us d rfl (x:= .ref it) rfl (Qa (Yz (by simp[I.ok.hd hc]) g p (by simp;omega) fun h' x m hx'=>?_)));obtain⟨o,l,hc'⟩:=hx';exact Qa (wpAny_isInstance (T:="StopIteration") (b:=true) ⟨o,l,hc'⟩ isSubtype_stop (Qg ⟨rfl,I.turnedL (t':=s.toks) (ch:=[it]) (fun b o c q=>m b o (fun z=>c (by simp[z])) q) fun b c=>by rw[Qf.mp c];exact y it (by simp)⟩))
 self:=fun _ _ _ _ _ st h=>by
  obtain⟨⟨old,d⟩,_⟩:=st;exact wpAny_pyIter_enum d h
def Zm8(K:PySem.W.Frag)(ta:TA):TI:=fun σ H R=>ta σ H fun vs H1=>∃a,vs=[.ref a]/\(∃xs,SqT K H1 a xs)/\R (Ite K a) H1
theorem Zgw:bootBuiltins "enumerate"=some (.type "enumerate"):=by decide+kernel
theorem ZcS{X}{elts}{x1}{tpos}{a}{ta}{p pos}(hg:Gl X "enumerate")(hm:X.mg "enumerate"=none)(ha:PA X [a] ta)(hpl:ZV a=true):PI X (.Tuple elts x1 tpos) (.Call (.Name "enumerate" p) [a] [] pos) (Zm8 X.K ta):=by
 refine fun f s σ H R I h=>Call_ (Jq I hg hm Zgw (UT (thn (ha pos f s σ H _ I h) fun _ j xq1=>?_) (ZY hpl) rfl));obtain⟨_,v,d,o,l⟩:=xq1;obtain⟨b,e,⟨_,m⟩,q⟩:=l;subst e;obtain⟨u,rfl,k⟩:=vals1 o;cases k;obtain⟨_,_,t,_⟩:=d.tuple m;refine JD t fun _ i r _ n=>wpAny_pyIter_enum i ⟨_,_,_,_,v,rfl,(d.kept (t':=j.toks) n),ZfE b _ _ (Nat.succ_ne_self _),⟨⟨.none,i⟩,r⟩,fun c g=>?_,q⟩;rcases Qn.mp g with rfl|g
 ·exact d.fpOk (Nat.le_succ _) (d.hok.fresh (Nat.le_succ _))
 ·rw[Qf.mp g]
  exact d.fpOk (Qe _) (d.hok.fresh (Qe _))
def Znm(K:PySem.W.Frag)(bs:List (Option Nat))(ta:TA)(g:TG)(tt:TT)(te:TE):TE:=fun σ H Q=>ta σ H fun vs H1=>∃a xs,vs=[.ref a]/\SqT K H1 a xs/\xs.length<=100000/\∃Pv:Nat->List V->St->Hp->Prop,Pv 0 [] (bst bs σ) H1/\
 (∀i ys σ H,i<=xs.length->Pv i ys σ H->SqT K H a xs/\ys.length<=i)/\
 (∀i x ys σ H,xs[i]?=some x->Pv i ys σ H->∀T H2,Same H H2->H2 T=some (.tup [.int i,x])->g (.ref T) σ H2 fun σ3 H3=>tt σ3 H3 fun b H4=>if b=true then te σ3 H4 fun v H5=>Pv (i+1) (ys++[v]) σ3 H5 else Pv (i+1) ys σ3 H4)/\
 ∀ys σ H,Pv xs.length ys σ H->∀p H',Same H H'->H' p=some (.lst ys)->Q (.ref p) H'
theorem Zkn{X}{scope}{cl}{N}{bs}{elts}{x1}{tpos}{a elt}{ifs}{p pos' pos}{ta}{g}{tt}{te}(B:Blk X scope cl N bs)(hc:X.calm=true)
  (hgl:Gl X "enumerate")(hmr:X.mg "enumerate"=none)(ha:PA X [a] ta)(hm:JR ta)(hpl:ZV a=true)(hg:∀C fp s H,PG (Z4 X scope cl C N fp s H) (.Tuple elts x1 tpos) g) (ht:∀C fp s H,PTs (Z4 X scope cl C N fp s H) ifs tt) (he:∀C fp s H,PE (Z4 X scope cl C N fp s H) elt te)
  (hs:∀x,foldedSetIterable (.Call (.Name "enumerate" p) [a] [] pos') X.env x=pure x:=by intro _;rfl):PE X (.ListComp elt [⟨.Tuple elts x1 tpos,.Call (.Name "enumerate" p) [a] [] pos',ifs,0⟩] scope pos) (Znm X.K bs ta g tt te):=by
 refine fun _ s σ H Q I h=>@Zd5 X _ cl N bs _ _ _ _ _ _ g tt te B hc (@ZcS X elts x1 tpos a ta p pos' hgl hmr ha hpl) hg ht he hs _ s σ H Q I (hm σ H _ _ (fun _ _ h=>?_) h);obtain⟨a,b,e,o,k,r,t,u,v,E⟩:=h;refine⟨a,e,⟨b,o⟩,fun i m f σ H=>m=b.length-i/\i<=b.length/\r i f σ H,⟨b.length,by simp,QE _,t⟩,?_⟩;rintro i m f σ H ⟨rfl,l,c⟩;obtain⟨q,_⟩:=u i f σ H l c;have _:=Yh k;by_cases d:i<b.length
 ·refine .inr ⟨⟨b,b[i],q,by simp[d]⟩,by omega,_,fun _ _ n D=>⟨_,by omega,rfl,d,D⟩,fun x n y=>?_⟩
  obtain⟨T,w,rfl,z,rfl,A⟩:=y;exact v i w f σ H (A b q) c T _ (Z0 z) Zd
 ·have e:i=b.length:=by omega
  subst e;exact .inl ⟨⟨b,q,Qe _⟩,by omega,fun p j=>E f σ H c p _ (Z0 j) Zd⟩
end L2
namespace SetT
open PySem PySem.SetTable
def adv(mask:Nat)(p:Probe):Probe:=
 if p.more>0 then{p with j:=p.j+1,more:=p.more-1}else
 {p with j:=(leap mask p.i p.perturb).1,more:=runEnd mask (leap mask p.i p.perturb).1-(leap mask p.i p.perturb).1,i:=(leap mask p.i p.perturb).1,perturb:=(leap mask p.i p.perturb).2}
theorem ZhY(t:SetTable)(p):t.advance p=adv t.mask p:=by
 unfold SetTable.advance adv;split<;>rfl
def st0(mask:Nat)(b:Nat):Probe:={j:=b%(mask+1),more:=runEnd mask (b%(mask+1))-b%(mask+1),i:=b%(mask+1),perturb:=b,dummy:=none}
def stk(mask b:Nat):Nat->Probe
 |0=>st0 mask b
 |k+1=>adv mask (stk mask b k)
theorem Zcr(mask b):∀k,(stk mask b k).dummy=none
 |0=>rfl
 |k+1=>by
  show(adv _ _).dummy=none;unfold adv;split<;>exact(Zcr _ b k)
def pos(mask b k:Nat):Nat:=(stk mask b k).j
def rs(mask b:Nat):Nat->Nat×Nat
 |0=>(b%(mask+1),b)
 |n+1=>leap mask (rs mask b n).1 (rs mask b n).2
theorem more_le(mask i):runEnd mask i-i<=9:=by unfold runEnd;split<;>simp
theorem ZcJ(mask b){k n}(h:stk mask b k={j:=(rs mask b n).1,more:=runEnd mask (rs mask b n).1-(rs mask b n).1,i:=(rs mask b n).1,perturb:=(rs mask b n).2,dummy:=none}):
  ∀m,m<=runEnd mask (rs mask b n).1-(rs mask b n).1->stk mask b (k+m)={j:=(rs mask b n).1+m,more:=runEnd mask (rs mask b n).1-(rs mask b n).1-m,i:=(rs mask b n).1,perturb:=(rs mask b n).2,dummy:=none}
 |0,_=>by omega
 |m+1,_=>by
  show adv _ (stk mask b (k+m))=_;rw[(ZcJ _ b h m (by omega))];unfold adv
  grind
theorem ZgJ(mask b):∀n,∃k,k<=10*n/\stk mask b k={j:=(rs mask b n).1,more:=runEnd mask (rs mask b n).1-(rs mask b n).1,i:=(rs mask b n).1,perturb:=(rs mask b n).2,dummy:=none}
 |0=>⟨0,Qe _,rfl⟩
 |n+1=>by
  obtain⟨k,_,e⟩:=ZgJ _ b n;have _:=more_le mask (rs mask b n).1;refine⟨k+(runEnd mask (rs mask b n).1-(rs mask b n).1)+1,by omega,?_⟩;show adv _ _=_;rw[(ZcJ _ b e _ (Qe _))];unfold adv;rw[if_neg (by simp_all)];rfl
theorem ZeX(mask b):∀n,(rs mask b n).2=b/32^n
 |0=>by show b=b/32^0;simp_all
 |n+1=>by
  show(rs _ b n).2/32=b/32^(n+1);rw[ZeX _ b n,Nat.div_div_eq_div_mul,Nat.pow_succ]
theorem Zl8(mask b):∀n,(rs mask b n).1<mask+1
 |0=>Nat.mod_lt _ (Vg _)
 |n+1=>Nat.mod_lt _ (Vg _)
def fL(mask x:Nat):Nat:=(x*5+1)%(mask+1)
def itF(mask x:Nat):Nat->Nat
 |0=>x
 |n+1=>fL mask (itF mask x n)
theorem ZeY(mask b)(hb:b<2^64):∀r,(rs mask b (12+r)).1=itF mask (rs mask b 12).1 r
 |0=>rfl
 |r+1=>by
  show((rs _ b (12+r)).1*5+1+(rs _ b (12+r)).2/32)%(mask+1)=fL _ _;have a:(rs mask b (12+r)).2/32=0:=by
   rw[ZeX,Nat.div_div_eq_div_mul];refine Nat.div_eq_of_lt (Qs hb ?_)
   grind
  rw[a,ZeY _ b hb r];rfl
def ZgX(mask x:Nat):Nat->List Nat
 |0=>[]
 |n+1=>x::ZgX mask (fL mask x) n
theorem ZdI(mask x):∀n,itF mask (fL mask x) n=itF mask x (n+1)
 |0=>rfl
 |n+1=>by show fL _ _=fL _ _;rw[ZdI _ x n]
theorem Zcy(mask):∀(n x z),z∈ZgX mask x n->∃r,r<n/\itF mask x r=z
 |0,_,_,h=>nomatch h
 |n+1,x,z,h=>by
  rcases Qn.mp h with e|h
  ·exact⟨0,Vg _,e.symm⟩
  ·obtain⟨r,_,e⟩:=Zcy _ n _ z h
   exact⟨r+1,by omega,by rw[<-ZdI];exact e⟩
def YM(mask:Nat):Bool:=(List.range (mask+1)).all (fun z=>(ZgX mask 0 (mask+1)).contains z)&&(itF mask 0 (mask+1)==0)
theorem Zbg(mask x m):∀n,itF mask (itF mask x m) n=itF mask x (m+n)
 |0=>rfl
 |n+1=>by show fL _ _=fL _ (itF mask x (m+n));rw[Zbg _ x m n]
theorem ZiP{mask}(h:YM mask=true){x z}(hx:x<mask+1)(hz:z<mask+1):∃r,r<mask+1/\itF mask x r=z:=by
 unfold YM at h;rw[Ux]at h;obtain⟨f,i⟩:=h;have b:=fun y g=>Zcy _ _ 0 y (List.contains_iff_mem.mp (List.all_eq_true.mp f y (QC.mpr g)));obtain⟨a,_,e⟩:=b x hx;obtain⟨c,_,d⟩:=b z hz;by_cases hac:a<=c
 ·refine⟨c-a,by omega,?_⟩
  rw[<-e,Zbg,show a+(c-a)=c by omega];exact d
 ·refine⟨mask+1-a+c,by omega,?_⟩
  rw[<-e,Zbg,show a+(mask+1-a+c)=mask+1+c by omega,<-Zbg,(Ve.mp i)];exact d
theorem reach{mask b z}(hf:YM mask=true)(hb:b<2^64)(hz:z<mask+1):∃n,n<=12+mask/\(rs mask b n).1=z:=by
 obtain⟨r,_,e⟩:=ZiP hf (Zl8 mask b 12) hz;exact⟨12+r,by omega,by rw[ZeY _ b hb];exact e⟩
theorem Zka{mask b z}(hf:YM mask=true)(hb:b<2^64)(hz:z<mask+1):∃k,k<10*turns mask/\pos mask b k=z:=by
 obtain⟨n,_,e⟩:=reach hf hb hz;obtain⟨k,_,a⟩:=ZgJ _ b n;refine⟨k,by unfold turns;omega,?_⟩;unfold pos;rw[a];exact e
theorem Zj5:YM 7=true:=by decide+kernel
theorem ZkN:YM 31=true:=by decide+kernel
theorem ZiS:YM 127=true:=by decide+kernel
theorem ZiR:YM 511=true:=by decide+kernel
theorem Zf7(h):bits h<2^64:=by
 unfold bits;omega
def ZeL(xs:Array Nat):Prop:=∀i j,i<j->j<xs.size->xs.getD i 0<xs.getD j 0
theorem ZbW(hr:ZeL xs):∀(fuel lo hi),hi-lo<=fuel->lo<=hi->hi<=xs.size->(∀i,i<lo->xs.getD i 0<j)->(∀i,hi<=i->i<xs.size->j<=xs.getD i 0)->
  ∀r,below.go xs j fuel lo hi=r->r<=xs.size/\(∀i,i<r->xs.getD i 0<j)/\(∀i,r<=i->i<xs.size->j<=xs.getD i 0)
 |0,lo,hi,m,n,h,a,b,r,e=>by
  have _:lo=r:=e
  grind
 |fuel+1,lo,hi,m,n,h,a,b,r,e=>by
  unfold below.go at e;by_cases f:lo<hi
  ·rw[if_pos f]at e
   have c:(lo+hi)/2<xs.size:=by omega
   have k:xs.getD ((lo+hi)/2) j=xs.getD ((lo+hi)/2) 0:=by
    grind
   simp only[k]at e;by_cases d:xs.getD ((lo+hi)/2) 0<j
   ·rw[if_pos d]at e
    refine ZbW hr _ _ hi (by omega) (by omega) h (fun i g=>?_) b r e;rcases Nat.lt_or_ge i _ with z|z
    ·exact Nat.lt_trans (hr i _ z c) d
    ·grind
   ·rw[if_neg d]at e
    refine ZbW hr _ lo _ (by omega) (by omega) (by omega) a (fun i g l=>?_) r e;rcases Nat.lt_or_ge _ i with z|z
    ·exact QM (Nat.le_of_not_lt d) (Vf (hr _ i z l))
    ·grind
  ·grind
theorem Zae(hr:ZeL xs)(j):below xs j<=xs.size/\(∀i,i<below xs j->xs.getD i 0<j)/\(∀i,below xs j<=i->i<xs.size->j<=xs.getD i 0):=
 ZbW hr _ 0 _ (by simp) (QE _) (Qe _) (fun i h=>absurd h (QK _)) (fun i _ a=>absurd a (by omega)) _ rfl
theorem JM{xs:Array _}{i v}(h:xs[i]?=some v):i<xs.size/\xs.getD i 0=v:=by
 obtain⟨_,_⟩:=Uj.mp h
 simp_all
theorem ZcX{xs:Array _}{i}(h:i<xs.size):xs[i]?=some (xs.getD i 0):=by simp_all
theorem below_at(hr:ZeL xs){i j}(h:xs[i]?=some j):below xs j=i:=by
 obtain⟨_,_,b⟩:=Zae hr j;obtain⟨a,_⟩:=JM h;rcases UG (below xs j) i with z|z|z
 ·have _:=b _ (Qe _) (by omega)
  have _:=hr _ _ z a;omega
 ·exact z
 ·grind
theorem ZfI{t:SetTable}(hr:ZeL t.place){i j}(h:t.place[i]?=some j):t.slot j= .live i:=by
 unfold SetTable.slot;rw[below_at hr h];simp[h]
theorem Zb0(t:SetTable)(hd:t.dummies=#[])(j):(∃i,t.slot j= .live i/\t.place[i]?=some j)\/t.slot j= .empty:=by
 unfold SetTable.slot;by_cases h:(t.place[below t.place j]?==some j)=true
 ·simp_all
 ·refine .inr ?_
  simp[h,(show has t.dummies j=false by rw[hd];rfl)]
theorem JT{t:SetTable}(hr:ZeL t.place){j}(h:t.slot j= .empty):∀i:Nat,t.place[i]?≠some j:=fun i z=>by
 rw[ZfI hr z]at h;cases h
structure JE(t:SetTable)(es:Array (Int×Value)):Prop where
 full:YM t.mask=true
 odd:t.mask%2=1
 nod:t.dummies=#[]
 rise:ZeL t.place
 le:∀(i v:Nat),t.place[i]?=some v->v<t.mask+1
 size:t.place.size=es.size
 path:∀(i v:Nat)(e:Int×Value),t.place[i]?=some v->es[i]?=some e->∃k,pos t.mask (bits e.1) k=v/\∀k',k'<k->∃i':Nat,t.place[i']?=some (pos t.mask (bits e.1) k')
theorem ZfH(hr:ZeL xs){m}(hs:xs.size<m):∃z,z<m/\∀i:Nat,xs[i]?≠some z:=by
 refine Qv fun b=>?_;have c:∀z,z<m->∃i,xs[i]?=some z:=fun z k=>Qv fun l=>b ⟨z,k,fun i e=>l ⟨i,e⟩⟩;have _:∀z,z<m->∃i,xs[i]?=some z/\z<=i:=by
  intro z
  induction z with
  |zero=>simp_all
  |_ z g=>
   intro h;obtain⟨i,e,_⟩:=g (by omega);obtain⟨j,d⟩:=c _ h;refine⟨j,d,?_⟩;obtain⟨f,_⟩:=JM e;obtain⟨_,_⟩:=JM d;rcases UG i j with q|q|q
   ·omega
   ·subst q;omega
   ·have:=hr j i q f;omega
 grind
theorem least{P:Nat->Prop}:∀n,P n->∃k,k<=n/\P k/\∀k',k'<k->¬P k':=by
 intro n
 induction n using Nat.strongRecOn with
 |_ n f=>
  intro d;by_cases h:∃k,k<n/\P k
  ·obtain⟨k,e,c⟩:=h
   obtain⟨_,_,_,_⟩:=f k e c
   grind
  ·exact⟨n,Qe _,d,fun k' a b=>h ⟨k',a,b⟩⟩
variable{t:SetTable}{es:Array (Int×Value)}
theorem ZdO(ok:JE t es)(room:es.size<t.mask+1)(b)(hb:b<2^64):
  ∃k0,k0<10*turns t.mask/\t.slot (pos t.mask b k0)= .empty/\∀k',k'<k0->∃i,t.slot (pos t.mask b k')= .live i/\t.place[i]?=some (pos t.mask b k'):=by
 obtain⟨z,d,_⟩:=ZfH ok.rise (show t.place.size<t.mask+1 by rw[ok.size];exact room);obtain⟨k,_,e⟩:=Zka ok.full hb d;have a:t.slot (pos t.mask b k)= .empty:=by
  rcases Zb0 t ok.nod (pos t.mask b k)with⟨i,_,h⟩|h
  ·simp_all
  ·exact h
 obtain⟨k0,_,c,_⟩:=least (P:=fun k=>t.slot (pos t.mask b k)= .empty) k a;refine⟨k0,by omega,c,fun k' _=>?_⟩;rcases Zb0 t ok.nod _ with h|h
 ·exact h
 ·simp_all
theorem Zfv(ok:JE t es){b k0}{f}{h}(he:t.slot (pos t.mask b k0)= .empty)(hl:∀k',k'<k0->∃i:Nat,t.slot (pos t.mask b k')= .live i/\t.place[i]?=some (pos t.mask b k')):
  ∀(fuel k),k<=k0->k0-k<fuel->
   (probe.go t f h fuel (stk t.mask b k)=some (.empty (pos t.mask b k0) none)/\∀k',k<=k'->k'<k0->∃i,t.place[i]?=some (pos t.mask b k')/\f i≠h)\/
   (∃k1 i,probe.go t f h fuel (stk t.mask b k)=some (.candidate (pos t.mask b k1) i (stk t.mask b (k1+1)))/\k<=k1/\k1<k0/\t.place[i]?=some (pos t.mask b k1)/\f i=h/\t.slot (pos t.mask b k1)= .live i/\
    ∀k',k<=k'->k'<k1->∃i,t.place[i]?=some (pos t.mask b k')/\f i≠h)
 |0,k,_,o=>absurd o (QK _)
 |fuel+1,k,_,o=>by
  by_cases l:k=k0
  ·subst l
   refine .inl ⟨?_,fun k' a d=>absurd a (by omega)⟩;unfold probe.go;have e:t.slot (stk t.mask b k).j= .empty:=he;rw[e,Zcr];rfl
  ·obtain⟨i,n,p⟩:=hl k (by omega)
   have e:t.slot (stk t.mask b k).j= .live i:=n;by_cases m:f i=h
   ·refine .inr ⟨k,i,?_,Qe _,by omega,p,m,n,fun k' a d=>absurd a (by omega)⟩
    unfold probe.go;rw[e];show(if f i==h then some _ else _)=_;rw[if_pos (Ve.mpr m),ZhY];rfl
   ·have c:probe.go t f h (fuel+1) (stk t.mask b k)=probe.go t f h fuel (stk t.mask b (k+1)):=by
     conv=>lhs;unfold probe.go
     rw[e];show(if f i==h then _ else probe.go t f h _ _)=_;rw[if_neg (fun z=>m (Ve.mp z)),ZhY];rfl
    rw[c];rcases Zfv ok he hl fuel (k+1) (by omega) (by omega)with⟨a,d⟩|⟨k1,_,a,d,_,_,_,_,_⟩
    ·refine .inl ⟨a,fun k' _ r=>?_⟩
     by_cases q:k'=k
     ·grind
     ·exact d k' (by omega) r
    ·grind
theorem YR(xs)(p)(x:α):(insertAt xs p x).toList=xs.toList.take p++x::xs.toList.drop p:=by
 unfold insertAt;simp;exact List.take_of_length_le (by simp)
theorem Yf(xs)(p)(x:α)(hp:p<=xs.size)(i):(insertAt xs p x)[i]?=if i<p then xs[i]? else if i=p then some x else xs[i-1]?:=by
 rw[<-UI,YR];have _:(xs.toList.take p).length=p:=by simp_all
 grind
theorem Yj(xs)(p)(x:α)(hp:p<=xs.size):(insertAt xs p x).size=xs.size+1:=by
 rw[<-UR,YR,Qk,QL,UC,List.length_drop,UR];omega
theorem Zkd(hd:t.dummies=#[])(j):t.put j=({t with place:=insertAt t.place (below t.place j) j},below t.place j):=by
 unfold SetTable.put;simp[(show has t.dummies j=false by rw[hd];rfl)]
theorem Zgg(ok:JE t es){h:Int}{x:Value}{k0:Nat}(he:t.slot (pos t.mask (bits h) k0)= .empty)(hlt:pos t.mask (bits h) k0<t.mask+1)(hl:∀k',k'<k0->∃i:Nat,t.slot (pos t.mask (bits h) k')= .live i/\t.place[i]?=some (pos t.mask (bits h) k')):
  JE {t with place:=insertAt t.place (below t.place (pos t.mask (bits h) k0)) (pos t.mask (bits h) k0)} (insertAt es (below t.place (pos t.mask (bits h) k0)) (h,x)):=by
 obtain⟨b1,b2,b3⟩:=Zae ok.rise (pos t.mask (bits h) k0);have hfree:=JT ok.rise he;have b1':below t.place (pos t.mask (bits h) k0)<=es.size:=by rw[<-ok.size];exact b1
 generalize hj:pos t.mask (bits h) k0=j at*;have hgt:∀i,below t.place j<=i->i<t.place.size->j<t.place.getD i 0:=fun i h1 h2=>by
  have h3:=b3 i h1 h2;have h4:t.place.getD i 0≠j:=fun z=>hfree i (by rw[ZcX h2,z]);omega
 have old:∀i v:Nat,t.place[i]?=some v->∃i':Nat,(insertAt t.place (below t.place j) j)[i']?=some v:=fun i v hv=>by
  by_cases hi:i<below t.place j
  ·exact⟨i,by rw[Yf _ _ _ b1,if_pos hi];exact hv⟩
  ·exact⟨i+1,by rw[Yf _ _ _ b1,if_neg (by omega),if_neg (by omega)];exact hv⟩
 have gd:∀i,i<(insertAt t.place (below t.place j) j).size->(insertAt t.place (below t.place j) j).getD i 0=if i<below t.place j then t.place.getD i 0 else if i=below t.place j then j else t.place.getD (i-1) 0:=fun i hi=>by
  have e1:=ZcX hi;rw[Yf _ _ _ b1]at e1;rw[Yj _ _ _ b1]at hi;by_cases h1:i<below t.place j
  ·rw[if_pos h1]at e1⊢
   exact(JM e1).2.symm
  ·rw[if_neg h1]at e1⊢
   by_cases h2:i=below t.place j
   ·rw[if_pos h2]at e1⊢
    exact(Option.some.inj e1).symm
   ·rw[if_neg h2]at e1⊢
    exact(JM e1).2.symm
 refine⟨ok.full,ok.odd,ok.nod,fun i i' hii hi'=>?_,fun i v hv=>?_,?_,fun i v e hv hee=>?_⟩
 ·have hi'':=hi'
  show(insertAt t.place (below t.place j) j).getD i 0<(insertAt t.place (below t.place j) j).getD i' 0;rw[gd i (Nat.lt_trans hii hi'),gd i' hi'];have hsz:i'<t.place.size+1:=by rw[<-Yj _ _ j b1];exact hi'
  by_cases h1:i'<below t.place j
  ·rw[if_pos (show i<below t.place j by omega),if_pos h1]
   exact ok.rise i i' hii (by omega)
  ·rw[if_neg h1]
   by_cases h2:i'=below t.place j
   ·rw[if_pos h2,if_pos (show i<below t.place j by omega)]
    exact b2 i (by omega)
   ·rw[if_neg h2]
    by_cases h3:i<below t.place j
    ·rw[if_pos h3]
     have q1:=b2 i h3;have q2:=hgt (i'-1) (by omega) (by omega);omega
    ·rw[if_neg h3]
     by_cases h4:i=below t.place j
     ·rw[if_pos h4]
      exact hgt (i'-1) (by omega) (by omega)
     ·rw[if_neg h4]
      exact ok.rise (i-1) (i'-1) (by omega) (by omega)
 ·have hv':(insertAt t.place (below t.place j) j)[i]?=some v:=hv
  rw[Yf _ _ _ b1]at hv';by_cases h1:i<below t.place j
  ·rw[if_pos h1]at hv';exact ok.le i v hv'
  ·rw[if_neg h1]at hv'
   by_cases h2:i=below t.place j
   ·rw[if_pos h2]at hv';cases hv';exact hlt
   ·rw[if_neg h2]at hv';exact ok.le (i-1) v hv'
 ·show(insertAt t.place (below t.place j) j).size=(insertAt es (below t.place j) (h,x)).size
  rw[Yj _ _ _ b1,Yj _ _ _ b1',ok.size]
 ·have hv':(insertAt t.place (below t.place j) j)[i]?=some v:=hv
  rw[Yf _ _ _ b1]at hv';rw[Yf _ _ _ b1']at hee;have goal:∀(i0:Nat),t.place[i0]?=some v->es[i0]?=some e->∃k,pos t.mask (bits e.1) k=v/\∀k',k'<k->∃i':Nat,(insertAt t.place (below t.place j) j)[i']?=some (pos t.mask (bits e.1) k'):=fun i0 q1 q2=>by
   obtain⟨k,hk,hp⟩:=ok.path i0 v e q1 q2;exact⟨k,hk,fun k' hk'=>let⟨i',q⟩:=hp k' hk';old i' _ q⟩
  by_cases h1:i<below t.place j
  ·rw[if_pos h1]at hv' hee;exact goal i hv' hee
  ·rw[if_neg h1]at hv' hee
   by_cases h2:i=below t.place j
   ·rw[if_pos h2]at hv' hee
    cases hv'
    cases hee
    refine⟨k0,hj,fun k' hk'=>?_⟩;obtain⟨i',_,q⟩:=hl k' hk';exact old i' _ q
   ·rw[if_neg h2]at hv' hee;exact goal (i-1) hv' hee
def Occ(owner:Array (Option Nat))(j:Nat):Prop:=(owner.getD j (some 0)).isNone=false
theorem Zc6{mask b}{owner}:∀(fuel n kn),stk mask b kn={j:=(rs mask b n).1,more:=runEnd mask (rs mask b n).1-(rs mask b n).1,i:=(rs mask b n).1,perturb:=(rs mask b n).2,dummy:=none}->
  (∃n',n<=n'/\n'<n+fuel/\¬Occ owner (rs mask b n').1)->
  ∃k j,layClean.free mask owner fuel (rs mask b n).1 (rs mask b n).2=some j/\kn<=k/\pos mask b k=j/\¬Occ owner j/\∀k',kn<=k'->k'<k->Occ owner (pos mask b k')
 |0,n,kn,_,⟨n',v,g,_⟩=>absurd g (by omega)
 |fuel+1,n,kn,t,⟨n',v,g,h⟩=>by
  unfold layClean.free;have run:=ZcJ _ b t;have _:(rs mask b n).1<=runEnd mask (rs mask b n).1:=by unfold runEnd;split<;>omega
  cases c:(List.range _).find? fun k=>(owner.getD _ _).isNone with
  |some m=>
   obtain⟨p,s,u⟩:=List.find?_range_eq_some.mp c;have f:m<runEnd mask (rs mask b n).1+1-(rs mask b n).1:=by simpa using s
   refine⟨kn+m,_,rfl,by omega,?_,?_,fun k' r o=>?_⟩
   ·unfold pos;rw[run m (by omega)]
   ·unfold Occ;rw[p];simp
   ·obtain⟨d,rfl⟩:∃d,k'=kn+d:=⟨k'-kn,by omega⟩
    have q:=u d (by omega);unfold pos Occ;rw[run d (by omega)]
    simpa using q
  |none=>
   have a:∀m,m<runEnd _ _+1-(rs _ b n).1->Occ _ _:=fun m f=>by
    have q:=(List.find?_range_eq_none.mp c) m f;unfold Occ
    simpa using q
   have _:n≠n':=fun z=>by
    subst z;exact h (by simpa using a 0 (by omega))
   have e:stk mask b (kn+(runEnd mask (rs mask b n).1-(rs mask b n).1)+1)={j:=(rs mask b (n+1)).1,more:=runEnd mask (rs mask b (n+1)).1-(rs mask b (n+1)).1,i:=(rs mask b (n+1)).1,perturb:=(rs mask b (n+1)).2,dummy:=none}:=by
    show adv mask (stk mask b (kn+(runEnd mask (rs mask b n).1-(rs mask b n).1)))=_;rw[run _ (Qe _)];unfold adv;rw[if_neg (by grind)];rfl
   obtain⟨k,j,l,_,w,x,_⟩:=Zc6 fuel (n+1) _ e ⟨n',by omega,by omega,h⟩;refine⟨k,j,l,by omega,w,x,fun k' r o=>?_⟩;by_cases q:k'<kn+(runEnd mask (rs mask b n).1-(rs mask b n).1)+1
   ·obtain⟨d,rfl⟩:∃d,k'=kn+d:=⟨k'-kn,by omega⟩
    unfold pos;rw[run d (by omega)];exact a d (by omega)
   ·simp_all
structure ZbZ(mask:Nat)(hs:List Int)(owner:Array (Option Nat))(k:Nat):Prop where
 size:owner.size=mask+1
 cnt:owner.toList.countP (·.isNone)+k=mask+1
 lt:∀(j m:Nat),owner[j]?=some (some m)->m<k
 has:∀m,m<k->∃j:Nat,owner[j]?=some (some m)
 path:∀(j m:Nat)(h:Int),owner[j]?=some (some m)->hs[m]?=some h->∃kk,pos mask (bits h) kk=j/\∀k',k'<kk->Occ owner (pos mask (bits h) k')
theorem countP_set:∀(l:List (Option Nat))(j m),l[j]?=some none->(l.set j (some m)).countP (·.isNone)+1=l.countP (·.isNone)
 |[],_,_,h=>by simp at h
 |a::l,0,m,h=>by
  simp_all
 |a::l,j+1,m,h=>by
  have _:=countP_set l j m (by simpa using h);simp[List.set_cons_succ,List.countP_cons];omega
theorem Zhm{mask k:Nat}{hs:List Int}{owner:Array (Option Nat)}{h:Int}(hf:YM mask=true)(L:ZbZ mask hs owner k)(hh:hs[k]?=some h)(room:k<mask+1):
  ∃j,layClean.free mask owner (turns mask) (bits h%(mask+1)) (bits h)=some j/\ZbZ mask hs (owner.setIfInBounds j (some k)) (k+1):=by
 have hpos:0<owner.toList.countP (·.isNone):=by have:=L.cnt;omega
 obtain⟨o,ho1,ho2⟩:=List.countP_pos_iff.mp hpos;obtain⟨z,hz,ez⟩:=QW ho1;have hz':z<owner.size:=by simpa using hz
 have ez':owner[z]?=some none:=by
  rw[<-UI,Qb hz,ez];cases o with
  |none=>rfl
  |some _=>cases ho2
 have hnocc:¬Occ owner z:=by
  unfold Occ;rw[QY,ez'];simp
 obtain⟨n,hn,en⟩:=reach hf (Zf7 h) (show z<mask+1 by rw[<-L.size];exact hz');obtain⟨kk,j,e1,_,e3,e4,e5⟩:=Zc6 (mask:=mask) (b:=bits h) (owner:=owner) (turns mask) 0 0 rfl ⟨n,QE _,by unfold turns;omega,by rw[en];exact hnocc⟩;have hj:owner[j]?=some none:=by
  cases q:owner[j]? with
  |none=>
   refine absurd ?_ e4;unfold Occ;rw[QY,q];rfl
  |some o=>
   cases o with
   |none=>rfl
   |some m=>
    refine absurd ?_ e4;unfold Occ;rw[QY,q];rfl
 have hjs:j<owner.size:=(Uj.mp hj).1;have get:∀i:Nat,(owner.setIfInBounds j (some k))[i]?=if j=i then some (some k)else owner[i]?:=fun i=>by
  rw[Array.getElem?_setIfInBounds];by_cases q:j=i
  ·subst q;simp[hjs]
  ·simp[q]
 have occ':∀i,Occ owner i->Occ (owner.setIfInBounds j (some k)) i:=fun i q=>by
  unfold Occ at q⊢;rw[QY]at q⊢;rw[get];by_cases z:j=i
  ·rw[if_pos z];rfl
  ·rw[if_neg z];exact q
 refine⟨j,e1,⟨by rw[Array.size_setIfInBounds];exact L.size,?_,fun i m hm=>?_,fun m hm=>?_,fun i m h' hm hh'=>?_⟩⟩
 ·have c:=countP_set owner.toList j k (by rw[UI];exact hj)
  have e:(owner.setIfInBounds j (some k)).toList=owner.toList.set j (some k):=by simp
  rw[e];have:=L.cnt;omega
 ·rw[get]at hm
  by_cases q:j=i
  ·rw[if_pos q]at hm;cases hm;simp
  ·rw[if_neg q]at hm;have:=L.lt i m hm;omega
 ·by_cases q:m=k
  ·exact⟨j,by rw[get,if_pos rfl,q]⟩
  ·obtain⟨i,hi⟩:=L.has m (by omega)
   refine⟨i,?_⟩;rw[get,if_neg (fun z=>by subst z;rw[hj]at hi;cases hi)];exact hi
 ·rw[get]at hm
  by_cases q:j=i
  ·rw[if_pos q]at hm
   cases hm
   rw[hh]at hh';cases hh';exact⟨kk,by rw[e3,q],fun k' hk'=>occ' _ (e5 k' (QE _) hk')⟩
  ·rw[if_neg q]at hm
   obtain⟨k2,a1,a2⟩:=L.path i m h' hm hh';exact⟨k2,a1,fun k' hk'=>occ' _ (a2 k' hk')⟩
theorem ZdH{mask:Nat}(hf:YM mask=true)(hs:List Int):∀(l:List Int)(owner:Array (Option Nat))(k:Nat),hs.drop k=l->k+l.length<=mask->ZbZ mask hs owner k->
  ∃owner',l.foldl (fun acc h=>do
   let(owner,k)<-acc
   let j<-layClean.free mask owner (turns mask) (bits h%(mask+1)) (bits h)
   pure (owner.setIfInBounds j (some k),k+1)) (some (owner,k))=some (owner',k+l.length)/\ZbZ mask hs owner' (k+l.length)
 |[],owner,k,_,_,L=>⟨owner,rfl,L⟩
 |h::l,owner,k,hd,hl,L=>by
  rw[QL]at hl;have hk:hs[k]?=some h:=by
   have:=UZ (fun x=>x[0]?) hd
   simpa using this
  obtain⟨j,e1,L'⟩:=Zhm hf L hk (by omega);have hd':hs.drop (k+1)=l:=by
   have:=UZ List.tail hd
   simpa using this
  obtain⟨o2,e2,L2⟩:=ZdH hf hs l (owner.setIfInBounds j (some k)) (k+1) hd' (by omega) L';refine⟨o2,?_,by rw[QL,show k+(l.length+1)=k+1+l.length by omega];exact L2⟩;rw[List.foldl_cons,QL,show k+(l.length+1)=k+1+l.length by omega,<-e2];congr 1;show(Option.bind (layClean.free mask owner (turns mask) (bits h%(mask+1)) (bits h)) fun j=>some (owner.setIfInBounds j (some k),k+1))=_;rw[e1];rfl
theorem ZkF{mask:Nat}(hf:YM mask=true)(hs:Array Int)(hl:hs.size<=mask):∃owner,layClean mask hs=some owner/\ZbZ mask hs.toList owner hs.size:=by
 have L0:ZbZ mask hs.toList (Array.replicate (mask+1) none) 0:=by
  refine⟨by simp,by simp[List.countP_replicate],fun j m h=>?_,fun m h=>absurd h (QK _),fun j m h q=>?_⟩
  ·rw[Array.getElem?_replicate]at h
   split at h<;>cases h
  ·rw[Array.getElem?_replicate]at q
   split at q<;>cases q
 obtain⟨o,e,L⟩:=ZdH hf hs.toList hs.toList _ 0 rfl (by simpa using hl) L0;refine⟨o,?_,by simpa using L⟩;unfold layClean;rw[<-Array.foldl_toList,e];rfl
def Ym(mask:Nat)(owner:Array (Option Nat)):List (Nat×Nat):=(List.range (mask+1)).filterMap fun j=>(owner.getD j none).map (j,·)
theorem mem_live{mask:Nat}{owner:Array (Option Nat)}{p:Nat×Nat}:p∈Ym mask owner↔p.1<mask+1/\owner[p.1]?=some (some p.2):=by
 unfold Ym;rw[U9];constructor
 ·rintro⟨j,hj,e⟩
  rw[QY]at e;cases q:owner[j]? with
  |none=>rw[q]at e;cases e
  |some o=>
   rw[q]at e;cases o with
   |none=>cases e
   |some m=>
    have e':(j,m)=p:=Option.some.inj e;subst e';exact⟨QC.mp hj,q⟩
 ·rintro⟨h1,h2⟩
  refine⟨p.1,QC.mpr h1,?_⟩;rw[QY,h2];rfl
theorem Zgb(mask:Nat)(owner:Array (Option Nat)):(Ym mask owner).Pairwise fun p q=>p.1<q.1:=by
 unfold Ym;rw[List.pairwise_filterMap];refine List.Pairwise.imp (fun{a b} hab=>?_) List.pairwise_lt_range;intro p hp q hq;have e1:p.1=a:=by
  cases z:owner.getD a none with
  |none=>rw[z]at hp;cases hp
  |some m=>rw[z]at hp;have:=Option.some.inj hp;rw[<-this]
 have e2:q.1=b:=by
  cases z:owner.getD b none with
  |none=>rw[z]at hq;cases hq
  |some m=>rw[z]at hq;have:=Option.some.inj hq;rw[<-this]
 rw[e1,e2];exact hab
theorem ZeF(l:List (Option Nat)):l.countP (·.isNone)+l.countP (·.isSome)=l.length:=by
 induction l with
 |nil=>rfl
 |cons a l ih=>
  simp only[List.countP_cons,QL];cases a with
  |none=>simp;omega
  |some m=>simp;omega
theorem ZhA(f:Nat->Option Nat):∀l:List Nat,(l.filterMap fun j=>(f j).map (j,·)).length=(l.map f).countP (·.isSome)
 |[]=>rfl
 |a::l=>by
  have ih:=ZhA f l;rw[UH,Vd,List.countP_cons];cases q:f a with
  |none=>simpa using ih
  |some m=>simpa using ih
theorem Zhj{mask k:Nat}{hs:List Int}{owner:Array (Option Nat)}(L:ZbZ mask hs owner k):(Ym mask owner).length=k:=by
 unfold Ym;rw[ZhA];have e:(List.range (mask+1)).map (fun j=>owner.getD j none)=owner.toList:=by
  refine List.ext_getElem? fun i=>?_;rw[Qx];by_cases hi:i<mask+1
  ·rw[List.getElem?_range hi]
   have hi':i<owner.size:=by rw[L.size];exact hi
   simp[Array.getD,hi']
  ·have h1:(List.range (mask+1))[i]?=none:=Ut (by rw[U1];omega)
   have h2:owner.toList[i]?=none:=Ut (by rw[UR,L.size];omega);rw[h1,h2];rfl
 rw[e];have c:=ZeF owner.toList;have:=L.cnt;rw[UR,L.size]at c;omega
theorem ZhB{es:Array (Int×Value)}:∀l:List Nat,(∀m∈l,m<es.size)->∀i:Nat,(l.filterMap (es[·]?))[i]?=(l[i]?).bind (es[·]?)
 |[],_,i=>by simp
 |m::l,h,i=>by
  have hm:=h m (.head _);have ih:=ZhB l fun x hx=>h x (.tail _ hx);rw[UH];have e:es[m]?=some es[m]:=by simp[hm]
  rw[e];cases i with
  |zero=>simp[e]
  |succ i=>simpa using ih i
theorem Zdh{es:Array (Int×Value)}:∀l:List Nat,(∀m∈l,m<es.size)->(l.filterMap (es[·]?)).length=l.length
 |[],_=>rfl
 |m::l,h=>by
  have hm:=h m (.head _);have ih:=Zdh l fun x hx=>h x (.tail _ hx);rw[UH];have e:es[m]?=some es[m]:=by simp[hm]
  rw[e];simp[ih]
theorem ZgA(mask b:Nat):∀k,(stk mask b k).j+(stk mask b k).more<=mask/\(stk mask b k).i<mask+1
 |0=>by
  have h:=Nat.mod_lt b (show 0<mask+1 by simp);refine⟨?_,h⟩;show b%(mask+1)+(runEnd mask (b%(mask+1))-b%(mask+1))<=mask;unfold runEnd;split<;>omega
 |k+1=>by
  obtain⟨h1,h2⟩:=ZgA mask b k;show(adv mask (stk mask b k)).j+(adv mask (stk mask b k)).more<=mask/\(adv mask (stk mask b k)).i<mask+1;unfold adv;split
  ·exact⟨by show(stk mask b k).j+1+((stk mask b k).more-1)<=mask;omega,h2⟩
  ·have h:=Nat.mod_lt ((stk mask b k).i*5+1+(stk mask b k).perturb/32) (show 0<mask+1 by simp)
   refine⟨?_,h⟩;show(leap mask (stk mask b k).i (stk mask b k).perturb).1+(runEnd mask (leap mask (stk mask b k).i (stk mask b k).perturb).1-(leap mask (stk mask b k).i (stk mask b k).perturb).1)<=mask;have h':(leap mask (stk mask b k).i (stk mask b k).perturb).1<mask+1:=h;unfold runEnd;split<;>omega
theorem Zjw(mask b k:Nat):pos mask b k<mask+1:=by
 have:=(ZgA mask b k).1;unfold pos;omega
theorem ZfO{t:SetTable}{es:Array (Int×Value)}{wanted:Nat}(hf:YM (sizeAbove wanted-1)=true)(ho:(sizeAbove wanted-1)%2=1)(hl:es.size<=sizeAbove wanted-1):
  ∃t' order,t.relaid (es.map (·.1)) wanted=some (t',order)/\(order.filterMap (es[·]?)).size=es.size/\JE t' (order.filterMap (es[·]?))/\t'.mask=sizeAbove wanted-1/\t'.plain=t.plain/\t'.led=t.led/\(∀e,e∈(order.filterMap (es[·]?)).toList↔e∈es.toList):=by
 generalize hmask:sizeAbove wanted-1=mask at*;obtain⟨owner,e0,L⟩:=ZkF hf (es.map (·.1)) (by rw[Array.size_map];exact hl);rw[Array.size_map]at L;have hlen:=Zhj L;have mlt:∀m∈(Ym mask owner).map (·.2),m<es.size:=fun m hm=>by
  obtain⟨p,hp,rfl⟩:=QQ.mp hm;exact L.lt _ _ (mem_live.mp hp).2
 refine⟨{mask:=mask,place:=((Ym mask owner).map (·.1)).toArray,dummies:=#[],finger:=t.finger,led:=t.led,moves:=t.movedTo mask,plain:=t.plain},((Ym mask owner).map (·.2)).toArray,?_,?_,?_,rfl,rfl,rfl,fun e=>?_⟩
 ·unfold SetTable.relaid SetTable.laid
  rw[hmask,e0];rfl
 ·rw[List.filterMap_toArray,QA,Zdh _ mlt,Qq,hlen]
 ·have pl:∀i:Nat,(((Ym mask owner).map (·.1)).toArray)[i]?=((Ym mask owner)[i]?).map (·.1):=fun i=>by rw[List.getElem?_toArray,Qx]
  have inPlace:∀j,Occ owner j->j<mask+1->∃i:Nat,(((Ym mask owner).map (·.1)).toArray)[i]?=some j:=fun j hj hjm=>by
   have hs:j<owner.size:=by rw[L.size];exact hjm
   obtain⟨m,hm⟩:∃m,owner[j]?=some (some m):=by
    unfold Occ at hj;rw[QY]at hj;cases q:owner[j]? with
    |none=>simp[hs]at q
    |some o=>
     cases o with
     |none=>rw[q]at hj;cases hj
     |some m=>exact⟨m,rfl⟩
   obtain⟨i,hi,ei⟩:=QW (mem_live.mpr (show((j,m):Nat×Nat).1<mask+1/\owner[((j,m):Nat×Nat).1]?=some (some ((j,m):Nat×Nat).2)from⟨hjm,hm⟩));exact⟨i,by rw[pl,Qb hi,ei];rfl⟩
  refine⟨hf,ho,rfl,fun i j hij hj=>?_,fun i v hv=>?_,?_,fun i v e hv he=>?_⟩
  ·have hj':j<(Ym mask owner).length:=by simpa using hj
   have q:=List.pairwise_iff_getElem.mp (Zgb mask owner) i j (by omega) hj' hij;show(((Ym mask owner).map (·.1)).toArray).getD i 0<(((Ym mask owner).map (·.1)).toArray).getD j 0;rw[QY,QY,pl,pl,Qb hj',Qb (by omega)];exact q
  ·have hv':(((Ym mask owner).map (·.1)).toArray)[i]?=some v:=hv
   rw[pl]at hv';cases q:(Ym mask owner)[i]? with
   |none=>rw[q]at hv';cases hv'
   |some p=>
    rw[q]at hv';have e:p.1=v:=Option.some.inj hv';rw[<-e];exact(mem_live.mp (Qj q)).1
  ·show(((Ym mask owner).map (·.1)).toArray).size=_
   rw[List.filterMap_toArray,QA,QA,Zdh _ mlt,Qq,Qq]
  ·have hv':(((Ym mask owner).map (·.1)).toArray)[i]?=some v:=hv
   rw[pl]at hv';rw[List.filterMap_toArray,List.getElem?_toArray,ZhB _ mlt,Qx]at he;cases q:(Ym mask owner)[i]? with
   |none=>rw[q]at hv';cases hv'
   |some p=>
    rw[q]at hv' he;have e1:p.1=v:=Option.some.inj hv';have e2:es[p.2]?=some e:=he;obtain⟨pm,po⟩:=mem_live.mp (Qj q);have eh:(es.map (·.1)).toList[p.2]?=some e.1:=by
     rw[UI,Array.getElem?_map,e2];rfl
    obtain⟨kk,a1,a2⟩:=L.path p.1 p.2 e.1 po eh;refine⟨kk,by rw[<-e1];exact a1,fun k' hk'=>inPlace _ (a2 k' hk') ?_⟩;exact Qv fun hge=>by
     have:=a2 k' hk';have hp:pos mask (bits e.1) k'<mask+1:=Zjw mask (bits e.1) k';exact hge hp
 ·rw[List.filterMap_toArray,U9]
  constructor
  ·rintro⟨m,hm,q⟩
   have:=Array.mem_of_getElem? q;exact U0.mpr this
  ·intro he
   obtain⟨m,hm,em⟩:=QW he;have hm':m<es.size:=by simpa using hm
   obtain⟨j,hj⟩:=L.has m hm';have hjm:j<mask+1:=by
    rw[<-L.size];exact(Uj.mp hj).1
   refine⟨m,QQ.mpr ⟨(j,m),mem_live.mpr ⟨hjm,hj⟩,rfl⟩,?_⟩;rw[<-em];simp
end SetT

namespace SetT
open PySem PySem.SetTable PySem.Spec PyProof.Rows
variable{prog:Program}{w:World}{N:Addr->Prop}{A:Around}{E:Value->Shared->Prop}{s:Shared}
abbrev IsP(prog:Program)(w:World)(h:Heap)(k:List Int)(b:Addr):Prop:=IsTupleKey (intKind prog w) h k b
abbrev hk(prog:Program)(w:World)(k:List Int):Int:=(tupleKind (intKind prog w)).hash k
def EntK(prog:Program)(w:World)(N:Addr->Prop)(h:Heap)(e:Int×Value)(k:List Int):Prop:=∃b,(e.2= .ref b/\N b)/\IsP prog w h k b/\e.1=hk prog w k
theorem EntK.inj(x:EntK prog w N h e k)(y:EntK prog w N h e k'):k=k':=by
 obtain⟨b,⟨c,_⟩,p,_⟩:=x;obtain⟨_,⟨a,_⟩,d,_⟩:=y;rw[c]at a;cases a;exact p.inj d
theorem items_int(h:ItemsAre (intKind prog w) ks vs):∀v∈vs,∃i t,v= .int i t:=by
 induction h with
 |nil=>simp_all
 |@cons k _ ks vs c _ b=>
  intro v a;rcases Qn.mp a with rfl|a
  ·obtain⟨t,e⟩:=Value.isInt_shape c
   exact⟨k,t,e⟩
  ·exact b v a
theorem fits_of(ok:JE t es)(room:es.size<t.mask+1):t.fits es.size=true:=by
 unfold SetTable.fits SetTable.fill;rw[ok.size,ok.nod];simp;omega
theorem Zay(hp:IsP prog w s.heap k b)(h:∀r,Q r s):wpAny (model prog w) A (hashByValue 8 (.ref b)) Q E s:=by
 have g:=hp.typeIs;obtain⟨o,_,n,j,_,m,l⟩:=hp;refine Qa (wpAny_specialOf g F.slot_tuple_hash.lookup (Qa (Q9 j m (Qa ?_))));rw[<-Array.forIn_toList];refine wpAny_forIn_list _ (fun c r e=>r.1=none/\e=s/\∀v∈c,∃i t,v=Value.int i t) _ ?_ ?_ _ _ ⟨rfl,rfl,items_int l⟩
 ·rintro v c r e ⟨f,rfl,a⟩
  obtain⟨i,t,rfl⟩:=a v Uq;exact Qa (Qg (Qg ⟨rfl,rfl,fun u d=>a u (Uc _ d)⟩))
 ·rintro⟨_,_⟩ e ⟨f,rfl,_⟩
  subst f;exact Qg (h _)
theorem Y7(hp:IsP prog w s.heap k b)(h:Q false s):wpAny (model prog w) A (ofAClassStatement 8 (.ref b)) Q E s:=by
 have g:=hp.typeIs;obtain⟨o,_,n,j,_,m,l⟩:=hp;unfold ofAClassStatement;refine Qa (wpAny_typeOf g (Qa (Qg ?_)));refine Qa (Q9 j m (Qa ?_));rw[<-Array.forIn_toList];refine wpAny_forIn_list _ (fun c r e=>r.1=none/\e=s/\∀v∈c,∃i t,v=Value.int i t) _ ?_ ?_ _ _ ⟨rfl,rfl,items_int l⟩
 ·rintro v c r e ⟨f,rfl,a⟩
  obtain⟨i,t,rfl⟩:=a v Uq;exact Qa (Qg (Qg ⟨rfl,rfl,fun u d=>a u (Uc _ d)⟩))
 ·rintro⟨_,_⟩ e ⟨f,rfl,_⟩
  subst f;exact Qg h
theorem ZjA(hp:IsP prog w s.heap k b)(l)(hl:∀y∈l,∃c k',y= .ref c/\IsP prog w s.heap k' c) (h:Q false s):wpAny (model prog w) A (searchCouldBeSeen (.ref b) l) Q E s:=by
 refine Qa (wpAny_forIn_list _ (fun d r f=>r.1=none/\f=s/\∀y∈d,∃c k',y=Value.ref c/\IsP _ w _ k' c) _ ?_ ?_ _ _ ⟨rfl,rfl,hl⟩)
 ·rintro y d r f ⟨g,rfl,e⟩
  obtain⟨c,k',rfl,j⟩:=e y Uq;have a:=fun u m=>e u (Uc _ m);by_cases i:((b==c)||(carriedByValue (Value.ref b)&&carriedByValue (Value.ref c)))=true
  ·rw[if_pos i]
   exact Qg ⟨rfl,rfl,a⟩
  ·rw[if_neg i]
   refine Qa (wpAny_eqIsQuiet_tuple hp (Qa (wpAny_eqIsQuiet_tuple j ?_)));exact Qa (Y7 hp (Qa (Y7 j (Qg ⟨rfl,rfl,a⟩))))
 ·rintro⟨_,_⟩ f ⟨g,rfl,_⟩
  subst g;exact Qg h
variable{prog:Program}{w:World}{N:Addr->Prop}{A:Around}{E:Value->Shared->Prop}{s:Shared}
def ZjM(es:Array (Int×Value))(i:Nat):Int:=(es[i]?.map (·.1)).getD 0
theorem Zbw(h:es[i]?=some e):ZjM es i=e.1:=by
 unfold ZjM;rw[h];rfl
theorem ZaV{o}{es}{ep}{t}{k}{Q}(hu:A.units<cLine)(ho:s.heap.get? a=some o)(hd:o.data= .set es ep t)(ok:JE t es)(room:es.size<t.mask+1)
  (hes:∀e∈es.toList,∃k',EntK prog w N s.heap e k') (hp:IsP prog w s.heap k b)
  {k0:Nat} (hk0:t.slot (pos t.mask (bits (hk prog w k)) k0)= .empty) (hlt0:k0<10*turns t.mask) (hl:∀k',k'<k0->∃i:Nat,t.slot (pos t.mask (bits (hk prog w k)) k')= .live i/\t.place[i]?=some (pos t.mask (bits (hk prog w k)) k'))
  (hfound:(∃e∈es.toList,EntK prog w N s.heap e k)->Q (.there none) s) (hfree:(¬∃e∈es.toList,EntK prog w N s.heap e k)->Q (.free (pos t.mask (bits (hk prog w k)) k0) false) s):
  ∀(fuel kk:Nat)(stand:Option Probe),stand.getD (t.probeStart (hk prog w k))=stk t.mask (bits (hk prog w k)) kk->kk<=k0->k0-kk<fuel->
   (∀k',k'<kk->∀(i:Nat) e,t.place[i]?=some (pos t.mask (bits (hk prog w k)) k')->es[i]?=some e->¬EntK prog w N s.heap e k)->
   wpAny (model prog w) A (setSearchFrom a (.ref b) (hk prog w k) true fuel stand) Q E s
 |0,kk,stand,_,_,hf,_=>absurd hf (QK _)
 |fuel+1,kk,stand,P,R,hf,F=>by
  have g:=fits_of ok room;have x:∀(i v:Nat),t.place[i]?=some v->∃e,es[i]?=some e/\∃k',EntK prog w N s.heap e k':=fun i v hv=>by
   have K:i<es.size:=by rw[<-ok.size];exact(JM hv).1
   refine⟨es[i],by simp[K],hes _ ?_⟩;simp
  refine Qa (wpAny_setState_of ho hd g ?_);dsimp only;have M:t.gaveWay=false:=by
   unfold SetTable.gaveWay;rw[ok.odd];rfl
  rw[M];have p:∀f:Nat->Int,t.probe f (hk prog w k) (stand.getD (t.probeStart (hk prog w k)))=probe.go t f (hk prog w k) (10*turns t.mask) (stk t.mask (bits (hk prog w k)) kk):=fun f=>by
   rw[P];rfl
  rw[p];rcases Zfv ok (f:=ZjM es) (h:=hk prog w k) hk0 hl (10*turns t.mask) kk R (by omega)with⟨S,Y⟩|⟨O,i,S,Y,_,e4,_,e6,e7⟩
  ·erw[S]
   refine Qg (hfree fun xq1=>?_);obtain⟨e,he,d⟩:=xq1;obtain⟨i,K,ei⟩:=QW he;have c:es[i]?=some e:=by rw[<-UI,Qb K,ei]
   have n:=ZcX (by rw[ok.size];exact(show i<es.size by simpa using K));obtain⟨_,_,_,m⟩:=id d;obtain⟨J,I,W⟩:=ok.path i _ e n c;rw[m]at I W;rcases UG J k0 with q|q|q
   ·by_cases hq:J<kk
    ·exact F J hq i e (by rw[I];exact n) c d
    ·obtain⟨B,u,C⟩:=Y J (by omega) q
     rw[I]at u;have:B=i:=by
      have u1:=below_at ok.rise u;have Z:=below_at ok.rise n;omega
     subst this;exact C (by rw[Zbw c];exact m)
   ·subst q
    rw[I]at hk0;exact JT ok.rise hk0 i n
   ·obtain⟨B,u⟩:=W k0 q
    exact JT ok.rise hk0 B u
  ·erw[S]
   dsimp only;obtain⟨e,c,ke,b',⟨H,D⟩,z,m⟩:=x i _ e4;have seen:∀(X:Sem SetFound),wpAny (model prog w) A X Q E s->wpAny (model prog w) A (if(!t.led)=true then do
     let r<-searchCouldBeSeen (.ref b) ((es.filter (·.1==hk prog w k)).toList.map (·.2))
     if r=true then unsupported "set:the-search-would-show-the-table" else X
    else X) Q E s:=fun X hX=>by
    split
    ·refine Qa (ZjA hp _ (fun y hy=>?_) ?_)
     ·obtain⟨L,U,rfl⟩:=QQ.mp hy
      have V:L∈es.toList:=by
       have:=(Array.mem_filter.mp (U0.mp U)).1;exact U0.mpr this
      obtain⟨k3,b3,⟨x1,_⟩,x2,_⟩:=hes L V;exact⟨b3,k3,x1,x2⟩
     ·simp[UV,if_false]
      exact hX
    ·exact hX
   first
    |refine seen _ ?_
    |skip
   rw[c];dsimp only;rw[H];refine Qa (Q5 (wpAny_eqBool_tuple hu z hp (Qa (wpAny_setState_of ho hd g ?_))));dsimp only;by_cases j:ke=k
   ·subst j
    simp[decide_true,Bool.and_self,if_true];exact Qg (hfound ⟨e,U0.mpr (Array.mem_of_getElem? c),b',⟨H,D⟩,z,m⟩)
   ·rw[QX j]
    simp only[Bool.and_false,UV,if_false];have T:t.sameMemory t.moves t.mask=some true:=by
     unfold SetTable.sameMemory;rw[if_pos (by simp)]
    rw[T];dsimp only;simp only[if_true];rw[e6];dsimp only;rw[c];dsimp only;rw[H];refine Qa (wpAny_isSame_ref_self (Qa (Qg ?_)));simp[if_true];refine ZaV hu ho hd ok room hes hp hk0 hlt0 hl hfound hfree fuel (O+1) (some (stk t.mask (bits (hk prog w k)) (O+1))) rfl (by omega) (by omega) fun k' _ B L u C d=>?_;by_cases q:k'<kk
    ·exact F k' q B L u C d
    ·by_cases q2:k'=O
     ·subst q2
      have:B=i:=by
       have u1:=below_at ok.rise u;have Z:=below_at ok.rise e4;omega
      subst this;rw[c]at C;cases C;exact j (EntK.inj ⟨b',⟨H,D⟩,z,m⟩ d)
     ·obtain⟨i2,p3,p4⟩:=e7 k' (by omega) (by omega)
      have:B=i2:=by
       have u1:=below_at ok.rise u;have Z:=below_at ok.rise p3;omega
      subst this;obtain⟨_,_,_,G⟩:=d;exact p4 (by rw[Zbw C];exact G)
variable{prog:Program}{w:World}{N:Addr->Prop}{A:Around}{E:Value->Shared->Prop}{s:Shared}
def Mk(m:Nat):Prop:=m=7\/m=31\/m=127\/m=511
theorem Mk.full(h:Mk m):YM m=true/\m%2=1:=by
 rcases h with rfl|rfl|rfl|rfl
 ·exact⟨Zj5,rfl⟩
 ·exact⟨ZkN,rfl⟩
 ·exact⟨ZiS,rfl⟩
 ·exact⟨ZiR,rfl⟩
def SetP(prog:Program)(w:World)(N:Addr->Prop)(h:Heap)(a:Addr)(ks:List (List Int)):Prop:=
 ∃o es ep t,h.get? a=some o/\o.ExactSet/\o.data= .set es ep t/\JE t es/\Mk t.mask/\es.size*5<t.mask*3/\(∀e∈es.toList,∃k,EntK prog w N h e k)/\(∀k,k∈ks↔∃e∈es.toList,EntK prog w N h e k)/\es.size=ks.length/\ks.Nodup
theorem IsP.same{k}{a b}{o}{es}{ep}{t}(x:IsP prog w h k b)(ho:h.get? a=some o)(hd:o.data= .set es ep t)(hs:Heap.SameBut a h h'):IsP prog w h' k b:=by
 obtain⟨i,_,n,c,f,e,g⟩:=x;have d:b≠a:=by
  grind
 exact⟨i,_,n,(hs.2 b d).trans c,f,e,g⟩
theorem EntK.same{e}{k}{a}{o}{es}{ep}{t}(x:EntK prog w N h e k)(ho:h.get? a=some o)(hd:o.data= .set es ep t)(hs:Heap.SameBut a h h'):EntK prog w N h' e k:=
 let⟨b,c,p,d⟩:=x;⟨b,c,p.same ho hd hs,d⟩
theorem Zda{x e:Int×Value}:e∈(insertAt es p x).toList↔e=x\/e∈es.toList:=by
 rw[YR,Qw,Qn];constructor
 ·grind
 ·rintro(h|h)
  ·exact .inr (.inl h)
  ·rw[<-List.take_append_drop p es.toList]at h
   rcases Qw.mp h with z|z
   ·exact .inl z
   ·exact .inr (.inr z)
theorem Zdx{h:Heap}{a:Addr}{o:Obj}{es es':Array _}{ep:Nat}{t t':SetTable}(ho:h.get? a=some o)(hd:o.data= .set es ep t):(h.update a (Obj.putSet es' t')).get? a=some {o with data:= .set es' (ep+1) t'}:=by
 have:=Uh (Obj.putSet es' t') ho (by rw[putSet_of _ t' hd];rfl);rw[putSet_of _ t' hd]at this;exact this
theorem Zib{ks}{k}{Q}(hu:A.units<cLine)(hS:SetP prog w N s.heap a ks)(hp:IsP prog w s.heap k b)(hN:N b)(hb:ks.length<=250)
  (h:∀h' r,Heap.SameBut a s.heap h'->SetP prog w N h' a (if k∈ks then ks else ks++[k])->Q r {s with heap:=h'}):
  wpAny (model prog w) A (setAddHashedIn a (.ref b) (hk prog w k) 100000) Q E s:=by
 obtain⟨o,es,ep,t,ho,hex,hd,ok,mk,fl,hes,hks,hsz,hnd⟩:=hS;have room:es.size<t.mask+1:=by omega
 have hfits:=fits_of ok room;obtain⟨j,hlt0,hk0,hl⟩:=ZdO ok room (bits (hk prog w k)) (Zf7 _);have m511:t.mask<=511:=by rcases mk with q|q|q|q<;>omega
 refine Qa (wpAny_setState_of ho hd hfits (Qa (ZaV hu ho hd ok room hes hp hk0 hlt0 hl (fun hfound=>?_) (fun hfree=>?_) 100000 0 none rfl (QE _) (by unfold turns at hlt0;omega) (fun k' hk'=>absurd hk' (QK _)))))
 ·
  dsimp only;refine Qg ?_;have e:s={s with heap:=s.heap}:=by cases s;rfl
  rw[e];refine h s.heap false (Heap.SameBut.refl a s.heap) ?_;rw[if_pos ((hks k).mpr hfound)];exact⟨o,es,ep,t,ho,hex,hd,ok,mk,fl,hes,hks,hsz,hnd⟩
 ·
  dsimp only;have hkn:=fun z=>hfree ((hks k).mp z);refine Qa (wpAny_setState_of ho hd hfits ?_);dsimp only;rw[Zkd ok.nod];dsimp only;have i:=Zgg (x:= .ref b) ok hk0 (Zjw t.mask (bits (hk prog w k)) j) hl;have isz:(insertAt es (below t.place (pos t.mask (bits (hk prog w k)) j)) (hk prog w k,Value.ref b)).size=es.size+1:=Yj _ _ _ (show below t.place (pos t.mask (bits (hk prog w k)) j)<=es.size by rw[<-ok.size];exact(Zae ok.rise _).1);generalize hes':insertAt es (below t.place (pos t.mask (bits (hk prog w k)) j)) (hk prog w k,Value.ref b)=es' at*;have mem':∀e,e∈es'.toList↔e=(hk prog w k,Value.ref b)\/e∈es.toList:=fun e=>by rw[<-hes'];exact Zda
  have fin:∀n:SetTable,JE n es'->n.mask=t.mask->n.fill=es'.size->wpAny (model prog w) A (do
     storeSet a es' n
     if(!false&&n.tooFull)=true then do setRelay a (SetTable.grown (es.size+1));pure true else pure true) Q E s:=by
   intro n ok2 em ef;have s1:=Heap.SameBut.update s.heap a (Obj.putSet es' n);have ho1:=Zdx (es':=es') (t':=n) ho hd;have hes1:∀e∈es'.toList,∃k',EntK prog w N (s.heap.update a (Obj.putSet es' n)) e k':=fun e he=>by
    rcases(mem' e).mp he with q|q
    ·exact⟨k,b,⟨by rw[q],hN⟩,hp.same ho hd s1,by rw[q]⟩
    ·obtain⟨k',x⟩:=hes e q
     exact⟨k',x.same ho hd s1⟩
   have hks1:∀k',k'∈ks++[k]↔∃e∈es'.toList,EntK prog w N (s.heap.update a (Obj.putSet es' n)) e k':=fun k'=>by
    rw[Qw,Qf,hks k'];constructor
    ·rintro(⟨e,he,x⟩|rfl)
     ·exact⟨e,(mem' e).mpr (.inr he),x.same ho hd s1⟩
     ·exact⟨(hk prog w k',Value.ref b),(mem' _).mpr (.inl rfl),b,⟨rfl,hN⟩,hp.same ho hd s1,rfl⟩
    ·rintro⟨e,he,x⟩
     rcases(mem' e).mp he with q|q
     ·refine .inr ?_
      subst q;exact x.inj ⟨b,⟨rfl,hN⟩,hp.same ho hd s1,rfl⟩
     ·obtain⟨k2,y⟩:=hes e q
      have:=x.inj (y.same ho hd s1);subst this;exact .inl ⟨e,q,y⟩
   have hnd1:(ks++[k]).Nodup:=by
    rw[Ud];exact⟨hnd,by simp,fun x hx y hy=>by rw[Qf.mp hy];exact fun z=>hkn (z▸hx)⟩
   have hsz1:es'.size=(ks++[k]).length:=by rw[isz,Qk,hsz];rfl
   refine Qa (wpAny_storeSet_of ho hd ?_ (by rw[QP];omega));by_cases tf:n.tooFull=true
   ·rw[tf]
    simp[Bool.not_false,Bool.and_self,if_true];have big:es'.size*5≥t.mask*3:=by
     unfold SetTable.tooFull at tf;rw[ef,em]at tf;exact Qr tf
    have cs:(t.mask=7/\es.size+1=5)\/(t.mask=31/\es.size+1=19)\/(t.mask=127/\es.size+1=77):=by
     rcases mk with q|q|q|q<;>omega
    have good:Mk (sizeAbove (grown (es.size+1))-1)/\es'.size*5<(sizeAbove (grown (es.size+1))-1)*3/\sizeAbove (grown (es.size+1))<=1000:=by
     rcases cs with⟨_,q⟩|⟨_,q⟩|⟨_,q⟩<;>rw[isz,q]
     ·exact⟨.inr (.inl (by decide)),by decide,by decide⟩
     ·exact⟨.inr (.inr (.inl (by decide))),by decide,by decide⟩
     ·exact⟨.inr (.inr (.inr (by decide))),by decide,by decide⟩
    obtain⟨t3,g,r1,r2,r3,r4,_,_,r7⟩:=ZfO (t:=n) (es:=es') (wanted:=grown (es.size+1)) good.1.full.1 good.1.full.2 (by omega);refine Qa ?_;unfold setRelay;refine Qa (wpAny_setState_of (s:={s with heap:=s.heap.update a (Obj.putSet es' n)}) ho1 rfl (fits_of ok2 (by rw[em];omega)) ?_);dsimp only;rw[if_neg (by rw[QP];omega),r1];refine Qa (wpAny_of_eq (a:=(g.filterMap (es'[·]?),t3)) ?_ ?_)
    ·have r2b:((g.filterMap (es'[·]?)).size !=es'.size)=false:=by rw[r2];simp
     first
      |(rw[r2b];rfl)
      |(rw[r2b];rfl)
      |(show(if((g.filterMap (es'[·]?)).size !=es'.size)=true then(do let _<-(unsupported "internal:set-table-lost-an-element":Sem PUnit);pure (g.filterMap (es'[·]?),t3))else(do let _<-(pure PUnit.unit:Sem PUnit);pure (g.filterMap (es'[·]?),t3)))=_;rw[r2b];rfl)
    dsimp only;refine wpAny_storeSet_of (s:={s with heap:=s.heap.update a (Obj.putSet es' n)}) ho1 rfl (Qg (h _ true (s1.trans (Heap.SameBut.update _ a _)) ?_)) (by rw[r2,QP];omega);rw[if_neg hkn];have s2:=Heap.SameBut.update (s.heap.update a (Obj.putSet es' n)) a (Obj.putSet (g.filterMap (es'[·]?)) t3);refine⟨_,_,_,t3,(Zdx (es':=g.filterMap (es'[·]?)) (t':=t3) ho1 rfl),hex,rfl,r3,by rw[r4];exact good.1,by rw[r2,r4];exact good.2.1,fun e he=>?_,fun k'=>?_,by rw[r2];exact hsz1,hnd1⟩
    ·obtain⟨k',x⟩:=hes1 e ((r7 e).mp he)
     exact⟨k',x.same ho1 rfl s2⟩
    ·rw[hks1 k']
     constructor
     ·rintro⟨e,he,x⟩
      exact⟨e,(r7 e).mpr he,x.same ho1 rfl s2⟩
     ·rintro⟨e,he,x⟩
      obtain⟨k2,y⟩:=hes1 e ((r7 e).mp he);have:=x.inj (y.same ho1 rfl s2);subst this;exact⟨e,(r7 e).mp he,y⟩
   ·rw[Bool.not_eq_true]at tf
    rw[tf];simp[Bool.and_false,UV,if_false];have small:es'.size*5<t.mask*3:=by
     unfold SetTable.tooFull at tf;rw[ef,em]at tf;have:=of_decide_eq_false tf;omega
    refine Qg (h _ true s1 ?_);rw[if_neg hkn];exact⟨_,es',_,n,ho1,hex,rfl,ok2,by rw[em];exact mk,by rw[em];exact small,hes1,hks1,hsz1,hnd1⟩
  have fill1:({t with place:=insertAt t.place (below t.place (pos t.mask (bits (hk prog w k)) j)) (pos t.mask (bits (hk prog w k)) j)}:SetTable).fill=es'.size:=by
   unfold SetTable.fill;rw[i.size,i.nod];simp
  have both:∀r:Bool,wpAny (model prog w) A (do
     storeSet a es' (if r=true then({t with place:=insertAt t.place (below t.place (pos t.mask (bits (hk prog w k)) j)) (pos t.mask (bits (hk prog w k)) j)}:SetTable)else({t with place:=insertAt t.place (below t.place (pos t.mask (bits (hk prog w k)) j)) (pos t.mask (bits (hk prog w k)) j),plain:=false}:SetTable))
     if(!false&&(if r=true then({t with place:=insertAt t.place (below t.place (pos t.mask (bits (hk prog w k)) j)) (pos t.mask (bits (hk prog w k)) j)}:SetTable)else({t with place:=insertAt t.place (below t.place (pos t.mask (bits (hk prog w k)) j)) (pos t.mask (bits (hk prog w k)) j),plain:=false}:SetTable)).tooFull)=true then do setRelay a (SetTable.grown (es.size+1));pure true else pure true) Q E s:=fun r=>by
   cases r with
   |true=>exact fin ({t with place:=insertAt t.place (below t.place (pos t.mask (bits (hk prog w k)) j)) (pos t.mask (bits (hk prog w k)) j)}:SetTable) i rfl fill1
   |false=>exact fin ({t with place:=insertAt t.place (below t.place (pos t.mask (bits (hk prog w k)) j)) (pos t.mask (bits (hk prog w k)) j),plain:=false}:SetTable) (show JE ({t with place:=insertAt t.place (below t.place (pos t.mask (bits (hk prog w k)) j)) (pos t.mask (bits (hk prog w k)) j),plain:=false}:SetTable) es' from⟨i.full,i.odd,i.nod,i.rise,i.le,i.size,i.path⟩) rfl fill1
  split
  ·exact Qa (Zay hp fun r=>both r)
  ·exact Qa (Qg (both true))
def stepK(σ:List (List Int))(k:List Int):List (List Int):=if k∈σ then σ else σ++[k]
def kd(key:Nat->List Int)(i:Nat):List (List Int):=((List.range i).map key).foldl stepK []
theorem Zfo(key)(i):kd key (i+1)=stepK (kd key i) (key i):=by
 unfold kd;rw[UA,QO,List.foldl_append];rfl
theorem kd_len(key):∀i,(kd key i).length<=i
 |0=>Qe _
 |i+1=>by
  rw[Zfo];unfold stepK;have _:=kd_len key i
  grind
theorem Zh8{led}{key}(hget:h.get? a=some {cls:= .type "set",dict:=none,data:= .set #[] 0 (.fresh 0 0 led)}):SetP prog w N h a (kd key 0):=by
 refine⟨_,_,0,_,hget,⟨rfl,rfl,rfl⟩,rfl,⟨Zj5,(by show 7%2=1;decide),rfl,fun i j _ h=>absurd h (QK _),fun i v h=>?_,rfl,fun i v e h=>?_⟩,.inl rfl,(by show 0*5<7*3;decide),fun e b=>?_,fun k=>⟨fun hk=>(nomatch hk),fun h=>?_⟩,rfl,Q4⟩
 ·exact absurd (show(#[])[i]?=some v from h) (by simp)
 ·trivial
 ·simp at b
 ·simp_all
section
variable{prog:Program}{w:World}{A:Around}{R:Result->Shared->Prop}{I:Addr}{fp wr:List Addr}{G:Array GenState->Array GenState->Prop}{n:Nat}{P:Nat->Value->Prop}{St:Nat->Shared->Prop}
theorem Zdp(W:WalksS prog w A.in1 I fp wr G n P St)(S)(hSf:S ∉ fp)(key)(hu:A.in1.units<cLine)(hb:n<=250):
  ∀(k i)(s),n-i=k->i<=n->St i s->(∀(j:Nat) v,P j v->∃b,v= .ref b/\IsP prog w s.heap (key j) b/\b ∉ S::wr)->
   SetP prog w (fun b=>b ∉ S::wr) s.heap S (kd key i)->
   (∀s',Moved (S::wr) G s s'->SetP prog w (fun b=>b ∉ S::wr) s'.heap S (kd key n)->R (.ok (.ret .none)) s')->
   codeAny (model prog w) A (.builtin "set.update.loop" ⟨[.ref S,.ref I],[]⟩) R s:=by
 have c:∀b∈wr,b∈S::wr:=fun b hb=>Uc _ hb;have d:∀{s s':Shared}{ks:List (List Int)},(∀b o,b ∉ wr->s.heap.get? b=some o->s'.heap.get? b=some o)->SetP prog w (fun b=>b ∉ S::wr) s.heap S ks->SetP prog w (fun b=>b ∉ S::wr) s'.heap S ks:=by
  intro s s' ks hk O;obtain⟨o,es,ep,t,ho,hex,hd,ok,mk,fl,L,hks,hsz,hnd⟩:=O;have f:∀e k,EntK prog w (fun b=>b ∉ S::wr) s.heap e k->EntK prog w (fun b=>b ∉ S::wr) s'.heap e k:=fun e k x=>by
   obtain⟨b,⟨e2,hn⟩,⟨g,a,m,h1,K⟩,e3⟩:=x;exact⟨b,⟨e2,hn⟩,⟨g,a,m,hk b g (fun z=>hn (c b z)) h1,K⟩,e3⟩
  refine⟨o,es,ep,t,hk S o (fun h=>hSf (W.sub _ h)) ho,hex,hd,ok,mk,fl,fun e B=>?_,fun k=>?_,hsz,hnd⟩
  ·obtain⟨k,x⟩:=L e B
   exact⟨k,f e k x⟩
  ·rw[hks k]
   constructor
   ·rintro⟨e,B,x⟩
    exact⟨e,B,f e k x⟩
   ·rintro⟨e,B,x⟩
    obtain⟨k2,y⟩:=L e B;have:=x.inj (f e k2 y);subst this;exact⟨e,B,y⟩
 intro k
 induction k with
 |zero=>
  intro i s hk hi q hv O hR;have hin:i=n:=by omega
  subst hin;exact Ua F.entry_set_update_loop (Qa (W.done s _ _ q fun s' u=>Qg (hR s' (u.mono c) (d u.heap O))))
 |succ k ih=>
  intro i s hk hi q hv O hR;have J:i<n:=by omega
  refine Ua F.entry_set_update_loop (Qa (W.item i s _ _ J q fun v s' hP D u=>?_));obtain⟨b,rfl,hp,hbn⟩:=hv i v hP;have E:IsP prog w s'.heap (key i) b:=let⟨g,a,m,h1,K⟩:=hp;⟨g,a,m,u.heap b g (fun z=>hbn (c b z)) h1,K⟩;refine Qa (Q5 ?_);unfold setAdd;refine Q5 (Qa ((tupleKind (intKind prog w)).pyHash (k:=key i) hu E ?_));unfold setAddHashed;refine Q5 ?_;have hlen:=kd_len key i;refine Zib (N:=fun b=>b ∉ S::wr) (s:={s' with toks:=s'.toks+(tupleKind (intKind prog w)).draws (key i)}) hu (d u.heap O) E hbn (by omega) fun h' r p hS2=>?_;have hSi:SetP prog w (fun b=>b ∉ S::wr) h' S (kd key (i+1)):=by
   rw[Zfo];exact hS2
  refine Qg ⟨UD F.plain_set_update_loop _,ih (i+1) _ (by omega) J (W.frame _ s' _ _ D (Nat.le_add_right _ _) fun b hb o e=>?_) (fun j v hj=>?_) hSi fun s'' M H=>?_⟩
  ·rw[p.2 b (fun h:b=S=>hSf (by rw[<-h];exact hb))];exact e
  ·obtain⟨b2,e2,⟨g,a,m,h1,K⟩,l⟩:=hv j v hj
   exact⟨b2,e2,⟨g,a,m,(p.2 b2 (fun h:b2=S=>l (by rw[h];exact Uq))).trans (u.heap b2 g (fun z=>l (c b2 z)) h1),K⟩,l⟩
  ·refine hR s'' (Moved.trans W.gtrans ((u.mono c).then_heap (Nat.le_add_right _ _) fun b o hb e=>?_) M) H
   rw[p.2 b (fun h:b=S=>hb (by rw[h];exact Uq))];exact e
end
variable{prog:Program}{w:World}{A:Around}{E:Value->Shared->Prop}{s:Shared}
def SetN(h:Heap)(a:Addr)(n:Nat):Prop:=∃o es ep t,h.get? a=some o/\o.ExactSet/\o.data= .set es ep t/\t.fits es.size=true/\es.size=n
theorem SetP.num(x:SetP prog w N h a ks):SetN h a ks.length:=by
 obtain⟨o,g,f,t,d,c,e,ok,mk,_,_,_,b,_⟩:=x;exact⟨o,g,f,t,d,c,e,fits_of ok (by omega),b⟩
theorem call_set_tuples
  (hh:A.handled=none)(hu:A.units+8<cLine)(hl:s.heap.IsList l items)(hi:∀(i:Nat)(v:Value),items[i]?=some v->∃b,v= .ref b/\IsP prog w s.heap (key i) b) (hb:items.size<=250)
  (h:∀(h':Heap)(tk:Nat),SetN h' s.heap.objs.size (kd key items.size).length->
   (∀b o,b<s.heap.objs.size->s.heap.get? b=some o->h'.get? b=some o)->Q (.ref s.heap.objs.size) {s with heap:=h',toks:=tk}):
  wpAny (model prog w) A (call (.type "set") [.ref l]) Q E s:=by
 obtain⟨c,tl,hmro⟩:=F.called_set.mro;have hmade:=F.called_set.made;have hsub:=F.called_set.sub;refine Va (codeAny_of_tree ?_);show wpAny _ _ (callAny (.type "set") _) _ _ _;refine Qg ⟨Code.quiet_builtin _ (by decide+kernel),Ua F.entry_type_call ?_⟩;rw[Around.under_plain (weight_type_call_type "set" [.ref l] []) rfl];have h1:=F.called_set.notType;have h2:=F.called_set.canCreate;have hct:=F.typeCall_set_1 (.ref l)
 repeat (any_goals (first|assumption|wp_step))
 refine UE (code_set_new_1 (.ref l) (E:=E) (Q₁:=fun obj s₁=>∃led:Bool,obj= .ref s.heap.objs.size/\s₁={s with heap:=s.heap.push {cls:= .type "set",dict:=none,data:= .set #[] 0 (.fresh 0 0 led)}}) fun led=>⟨led,rfl,rfl⟩) fun r s₁ hr=>?_;cases r with
 |error e=>exact hr
 |ok fl=>
  cases fl with
  |ret obj=>
   obtain⟨led,rfl,rfl⟩:=hr;have hS:(s.heap.push {cls:= .type "set",dict:=none,data:= .set #[] 0 (.fresh 0 0 led)}).get? s.heap.objs.size=some {cls:= .type "set",dict:=none,data:= .set #[] 0 (.fresh 0 0 led)}:=Ql _ rfl;have hT:Shared.TypeIs {s with heap:=s.heap.push {cls:= .type "set",dict:=none,data:= .set #[] 0 (.fresh 0 0 led)}} (.ref s.heap.objs.size) "set":=⟨_,hS,rfl⟩;have hli:=F.called_set.init.lookup;have hbi:=F.called_set.init.bind (.ref s.heap.objs.size)
   repeat (any_goals (first|assumption|wp_step))
   refine UE (codeAny_call_builtin (R:=wants (fun r s₂=>r= .none/\∃h' tk,s₂={s with heap:=h',toks:=tk}/\
     SetN h' s.heap.objs.size (kd key items.size).length/\
     (∀b o,b<s.heap.objs.size->s.heap.get? b=some o->h'.get? b=some o)) E) F.called_set.init.plain F.entry_set_init (check_set_init_1 hT ?_)) fun r₂ s₂ hr₂=>?_
   ·obtain⟨ol,hol,hcl,nl,hdl⟩:=hl
    obtain⟨ocls,odict,odata,oslots⟩:=ol;simp only at hcl hdl;subst hcl;subst hdl;have hol':(s.heap.push {cls:= .type "set",dict:=none,data:= .set #[] 0 (.fresh 0 0 led)}).get? l=some {cls:= .type "list",dict:=odict,data:= .seq items nl,slots:=oslots}:=Qc _ hol;have hsls:=F.sub_list_set;have hslf:=F.sub_list_frozenset;have hne:(Value.type "list"==Value.type "dict")=false:=by decide
    have hl1:(s.heap.push {cls:= .type "set",dict:=none,data:= .set #[] 0 (.fresh 0 0 led)}).IsList l items:=⟨_,hol',rfl,nl,rfl⟩;unfold Builtin.«set.__init__» noKeywords Builtin.Frozenset.updateFrom;generalize hPI:pyIter=PI
    wp_walk
    subst hPI;refine UN hl1 (Qa (wpAny_runValue ?_));have hlS:l<s.heap.objs.size:=Qh hol;have hh3:A.in1.in1.in1.handled=none:=by simp[hh]
    have hu':A.in1.in1.in1.units<cLine:=by show A.units+1+1+1<cLine;omega
    have hneI:l≠(s.heap.push {cls:= .type "set",dict:=none,data:= .set #[] 0 (.fresh 0 0 led)}).objs.size:=by
     rw[QR];exact Qo (Uk hlS)
    have hSf:s.heap.objs.size ∉ [(s.heap.push {cls:= .type "set",dict:=none,data:= .set #[] 0 (.fresh 0 0 led)}).objs.size,l]:=by
     rw[QR];simp only[Qn,Qf,Qt,Q3,not_or];exact⟨Qo (Q7 _),Uo hlS⟩
    refine Zdp ((Walks.list hh3 _ l hneI items).toS) s.heap.objs.size
     hSf key hu' hb (items.size-0) 0 _ (by simp) (QE _)
     ⟨⟨_,Ql _ rfl,rfl,rfl⟩,(hl1.push _)⟩ (fun i v hv=>?hval) ?hS0 ?hR
    case hval=>
     obtain⟨b,e,hp⟩:=hi i v hv;obtain⟨ob,items',n',ho',r⟩:=hp;have hbs:b<s.heap.objs.size:=Qh ho';refine⟨b,e,⟨ob,items',n',Qc _ (Qc _ ho'),r⟩,?_⟩;rw[QR];simp only[Qn,Qf,Qt,Q3,not_or];exact⟨Qo hbs,Qo (Uk hbs)⟩
    case hS0=>
     have hget:((s.heap.push {cls:= .type "set",dict:=none,data:= .set #[] 0 (.fresh 0 0 led)}).push {cls:= .type "list_iterator",data:= .fields #[.ref l,.int 0 0]}).get? s.heap.objs.size
       =some {cls:= .type "set",dict:=none,data:= .set #[] 0 (.fresh 0 0 led)}:=Qc _ hS
     exact Zh8 hget
    case hR=>
     intro s' hm hS';obtain⟨h',g',d',tk',os'⟩:=s';have eg:g'=s.gens:=hm.gens;have ed:d'=s.drawn:=hm.drawn;have eo:os'=s.os:=hm.os;subst eg;subst ed;subst eo;show wpAny _ _ _ _ _ _;refine Qg ?_;show wpAny _ _ (ret Value.none) _ _ _;refine Qg ⟨rfl,h',tk',rfl,hS'.num,fun b o hb e=>?_⟩;have hb1:b≠s.heap.objs.size:=Qo hb;have hb2:b≠(s.heap.push {cls:= .type "set",dict:=none,data:= .set #[] 0 (.fresh 0 0 led)}).objs.size:=by
      rw[QR];exact Qo (Uk hb)
     exact hm.heap b o (by simp only[Qn,Qf,Qt,Q3,not_or];exact⟨hb1,hb2⟩) (Qc _ (Qc _ e))
   ·cases r₂ with
    |error e=>exact hr₂
    |ok fl₂=>
     cases fl₂ with
     |ret r=>
      obtain⟨rfl,h',tk,rfl,hS',hk'⟩:=hr₂
      repeat (any_goals (first|assumption|wp_step))
      exact h _ _ hS' hk'
     |_=>exact hr₂.elim
  |_=>exact hr.elim
end SetT
namespace L2
open PySem PySem.Spec PyProof.Rows
def ZgF(q:Addr)(n:Nat):HO:= .ext fun h=>SetT.SetN h q n
theorem Zir{q}{n}(x:SetT.SetN h1 q n)(k:∀o,h1.get? q=some o->h2.get? q=some o):SetT.SetN h2 q n:=
 let⟨o,b,c,t,a,r⟩:=x;⟨o,b,c,t,k o a,r⟩
theorem Zhp:∀{us},Vals (ks.map V.int) us->ItemsAre (intKind P w) ks us:=by
 induction ks with
 |nil=>intro us r;cases r;exact .nil
 |cons k ks c=>
  intro us r;cases r with
  |cons h t=>
   obtain⟨_,rfl⟩:=h;exact .cons (intKind_is _ _ _ _) (c t)
theorem Zm3(keys:List _):SetT.kd (fun i=>keys.getD i []) keys.length=keys.foldl SetT.stepK []:=by
 unfold SetT.kd;congr 1;refine List.ext_getElem? fun i=>?_;rw[Qx];by_cases hi:i<keys.length
 ·simp_all
 ·simp_all
section
variable{X:Cx}
inductive ZlA(K:PySem.W.Frag)(xs:List V)(H:Hp)(Q:VK):Prop
 |mk (p ys:_) (keys:List (List Int)) (_:xs=[.ref p]) (_:SqL K H p ys) (_:ys.length=keys.length) (_:ys.length<=250) (_:(∀(i:Nat) y k,ys[i]?=some y->keys[i]?=some k->∃b,y= .ref b/\H b=some (.tup (k.map V.int)))) (_:∀q H',Same H H'->H' q=some (ZgF q (keys.foldl SetT.stepK []).length)->Q (.ref q) H')
theorem Zgp(hr:Room k X.A):CallR X (.type "set") (ZlA X.K):=by
 intro _ s σ H _ _ Q I r h;obtain⟨p,D,a,rfl,R,_,_,L,q⟩:=h;obtain⟨u,rfl,E⟩:=vals1 r;cases E;obtain⟨m,y,M,_⟩:=I.list R;have _:=y.length;refine SetT.call_set_tuples (key:=fun i=>a.getD i []) hr.hd (by have:=hr.un;omega) M.isList (fun i v G=>?_) (by simp_all) fun _ _ l J=>?_
 ·have g:m[i]?=some v:=by simpa using G
  have _:=(Qd.mp g).1;have z:D[i]?=some _:=Qb (by omega);have j:a[i]?=some _:=Qb (by omega);obtain⟨b,P,F⟩:=L i _ _ z j;obtain⟨_,w,B⟩:=y.get z;rw[g]at w;cases w;rw[P]at B;obtain⟨_,_,C,o,t,N,n,O⟩:=I.hok b _ F;refine⟨b,B,o,_,n,t,N,O,?_⟩;rw[Qi,j];exact Zhp C
 ·have e:(SetT.kd (fun i=>a.getD i []) m.toArray.size).length=(a.foldl SetT.stepK []).length:=by
   rw[QA,show m.length=a.length by omega,Zm3]
  rw[e]at l;exact⟨.ref s.heap.objs.size,_,I.laid (o:=ZgF s.heap.objs.size (a.foldl SetT.stepK []).length) (fun b o e=>J b o (Qh e) e) (Qe _) ⟨l,let⟨o,_,_,_,t,_⟩:=l;⟨o,t⟩,fun _ _ x k=>Zir x k⟩,rfl,q _ _ (Z0 (I.hok.fresh (Qe _))) Zd⟩
inductive rLenS(xs:List V)(H:Hp)(Q:VK):Prop
 |mk (q n:_) (_:xs=[.ref q]) (_:H q=some (ZgF q n)) (_:n<=100000) (_:Q (.int n) H)
theorem Zgs:CallR X (.builtin "len") rLenS:=by
 intro _ s σ H _ _ Q I r h;obtain⟨p,n,rfl,b,_,q⟩:=h;obtain⟨u,rfl,g⟩:=vals1 r;cases g;obtain⟨o,_,_,t,d,a,f,c,e⟩:SetT.SetN _ p n:=(I.hok p _ b).1;refine call_len_set d a f c (by omega) ⟨.int n,H,I.tok _,⟨_,by rw[e]⟩,q⟩
end
end L2
namespace PySem
open Sem (wp)
def ZIt(b:Bool)(h:Heap)(i l:Addr)(k:Nat):Prop:=match b with|true=>h.IsTupleIter i l k|false=>h.IsListIter i l k
def ZSq(b:Bool)(h:Heap)(l:Addr)(xs:Array Value):Prop:=match b with|true=>h.IsTuple l xs|false=>h.IsList l xs
def zcl(b:Bool):String:=match b with|true=>"tuple_iterator"|false=>"list_iterator"
section
variable{prog:Program}{w:World}{A:Around}{E:Value->Shared->Prop}{s:Shared}{b:Bool}{h h':Heap}{it i l z:Addr}{k:Nat}{xs items:Array Value}
theorem ZIt.at(x:ZIt b h i l k)(f:∀o,h.get? i=some o->h'.get? i=some o):ZIt b h' i l k:=by
 cases b<;>exact let⟨o,a,r⟩:=x;⟨o,f o a,r⟩
theorem ZIt.ob(x:ZIt b h i l k):∃o fs,h.get? i=some o/\o.data= .fields fs:=by
 cases b<;>exact let⟨o,a,_,r⟩:=x;⟨o,_,a,r⟩
theorem ZIt.extBut(x:ZIt b h i l k)(f:Heap.ExtBut z h h')(n:i≠z):ZIt b h' i l k:=x.at fun _ e=>f _ _ n e
theorem ZSq.extBut(x:ZSq b h l xs)(f:Heap.ExtBut z h h')(n:l≠z):ZSq b h' l xs:=by
 cases b<;>exact let⟨o,a,r⟩:=x;⟨o,f _ _ n a,r⟩
theorem ZSq.lt(x:ZSq b h l xs):l<h.objs.size:=by
 cases b<;>exact let⟨_,a,_⟩:=x;Qh a
theorem ZSq.push(x:ZSq b h l xs)(o):ZSq b (h.push o) l xs:=by
 cases b<;>exact let⟨_,a,r⟩:=x;⟨_,Qc _ a,r⟩
theorem Zbn(hit:ZIt b s.heap it l k)(hl:ZSq b s.heap l items)(hx:items[k]?=some x)
  (hQ:∀h',ZIt b h' it l (k+1)->Heap.SameBut it s.heap h'->Q x {s with heap:=h'}):wpAny (model prog w) A (Builtin.SmallTypes.nextOf (.ref it)) Q E s:=by
 cases b
 ·exact wpAny_nextOf_list_item hit hl hx hQ
 ·exact YL hit hl hx hQ
theorem ZeM(hh:A.handled=none)(hit:ZIt b s.heap it l k)(hl:ZSq b s.heap l items)(hx:items[k]?=none)
  (hE:∀h' e,Heap.ExtBut it s.heap h'->(∃o,h'.get? e=some o/\o.cls= .type "StopIteration")->E (.ref e) {s with heap:=h'}):wpAny (model prog w) A (Builtin.SmallTypes.nextOf (.ref it)) Q E s:=by
 cases b
 ·exact wpAny_nextOf_list_end hh hit hl hx hE
 ·exact Yz hh hit hl hx hE
theorem Zdn(hl:ZSq b s.heap l items)(hQ:Q (.ref s.heap.objs.size) {s with heap:=s.heap.push {cls:= .type (zcl b),data:= .fields #[.ref l,.int 0 0]}}):wpAny (model prog w) A (pyIter (.ref l)) Q E s:=by
 cases b
 ·exact UN hl hQ
 ·exact UB hl hQ
end
section
variable{prog:Program}{w:World}{A:Around}{E:Value->Shared->Prop}{s:Shared}{b1 b2:Bool}
theorem Zbo{x y a b}{Q:Value->Shared->Prop}(D:ZipApart z TI TO i1 i2 l1 l2)
  (hz:IsZip s.heap z TI TO .none)(hTI:IsPair s.heap TI (.ref i1) (.ref i2))(hTO:IsPair s.heap TO a b)
  (h1:ZIt b1 s.heap i1 l1 k1)(h2:ZIt b2 s.heap i2 l2 k2)(hl1:ZSq b1 s.heap l1 xs)(hl2:ZSq b2 s.heap l2 ys)(hx:xs[k1]?=some x)(hy:ys[k2]?=some y)
  (hQ:∀h',IsZip h' z TI TO (rawInt s.heap.objs.size)->IsPair h' TO x y->ZIt b1 h' i1 l1 (k1+1)->ZIt b2 h' i2 l2 (k2+1)->IsPair h' s.heap.objs.size x y->h'.objs.size=s.heap.objs.size+1->
   (∀c o,c≠z->c≠TO->c≠i1->c≠i2->s.heap.get? c=some o->h'.get? c=some o)->Q (.ref s.heap.objs.size) {s with heap:=h'}):
  wpAny (model prog w) A (Builtin.«zip.__next__» ⟨[.ref z],[]⟩) (fun fin s'=>∃v,fin= .done (.ret v)/\Q v s') E s:=by
 show wpAny _ _ (field (.ref z) 2>>=_) _ _ _;refine Qa (Us hz rfl (x:= .bool false) rfl (Qa (Us hz rfl (x:= .ref TI) rfl (Qa (Q9 hTI rfl (Qa (Qa (Us hz rfl (x:= .none) rfl (Qg ?_)))))))));refine Qa (wpAny_rule (Qa (Us hz rfl (x:= .ref TO) rfl (Qa (UW hz (by simp) fun h₁ hz₁ f=>(Qa (Qa (Qa (wpAny_onRaise (Qa (Zbn (h1.extBut f.extBut D.i1z) (hl1.extBut f.extBut D.l1z) hx fun h₂ h1₂ i=>Qg ?_)))))))))));have hTO₂:=i.extBut _ _ D.TOi1 (f.extBut _ _ D.TOz hTO);refine Qa (Q9 hTO₂ rfl (Qa (wpAny_updateSeq_pair hTO₂ fun h₃ hTO₃ h=>?_)));refine Qa (wpAny_letGo (Qg (Qa (Qa (wpAny_onRaise (Qa (Zbn (((h2.extBut f.extBut D.i2z).extBut i.extBut D.i12.symm).extBut h.extBut D.TOi2.symm)
  (((hl2.extBut f.extBut D.l2z).extBut i.extBut D.l2i1).extBut h.extBut D.l2TO) hy fun h₄ h2₄ k=>Qg ?_)))))))
 have n:=k.extBut _ _ D.TOi2 hTO₃;refine Qa (Q9 n rfl (Qa (wpAny_updateSeq_pair n fun l g j=>?_)));replace g:IsPair l TO x y:=g;refine Qa (wpAny_letGo (Qg (Qg (Qa (Q9 g rfl (Qa (wpAny_newTuple ?_)))))));have hsz:l.objs.size=s.heap.objs.size:=by rw[j.1,k.1,h.1,i.1,f.1]
 have hz₅:=j.extBut _ _ D.TOz.symm (k.extBut _ _ D.i2z.symm (h.extBut _ _ D.TOz.symm (i.extBut _ _ D.i1z.symm hz₁)));have hk₅:∀c o,c≠z->c≠TO->c≠i1->c≠i2->s.heap.get? c=some o->l.get? c=some o:=fun c o c1 c2 c3 c4 e=>
  j.extBut _ _ c2 (k.extBut _ _ c4 (h.extBut _ _ c2 (i.extBut _ _ c3 (f.extBut _ _ c1 e))))
 have hzlt:=Qh hz₅;refine Qa ?_;unfold Builtin.SmallTypes.ownedTupleHandOut;refine Qa (UW (show IsZip (l.push {cls:= .type "tuple",data:= .seq #[x,y]}) z TI TO .ellipsis from Qc _ hz₅) (by simp) fun h₇ hz₇ hs₇=>?_);replace hz₇:IsZip h₇ z TI TO (rawInt l.objs.size):=hz₇;refine UW hz₇ (by simp) fun h₈ m hs₈=>?_;replace m:IsZip h₈ z TI TO (rawInt l.objs.size):=m;have up:∀c o,c≠z->l.get? c=some o->h₈.get? c=some o:=fun c o c1 e=>hs₈.extBut _ _ c1 (hs₇.extBut _ _ c1 (Qc _ e));have hT₈:IsPair h₈ l.objs.size x y:=hs₈.extBut _ _ (Uo hzlt) (hs₇.extBut _ _ (Uo hzlt) (Ql _ rfl));have hz8:h₈.objs.size=l.objs.size+1:=by rw[hs₈.1,hs₇.1,QR]
 rw[hsz]at m hT₈ hz8;refine Qg ⟨_,rfl,?_⟩;rw[hsz];exact hQ h₈ m (up _ _ D.TOz g) ((((h1₂.extBut h.extBut D.TOi1.symm).extBut k.extBut D.i12).extBut j.extBut D.TOi1.symm).at fun o e=>up _ o D.i1z e) ((h2₄.extBut j.extBut D.TOi2.symm).at fun o e=>up _ o D.i2z e) hT₈ hz8 fun c o c1 c2 c3 c4 e=>up c o c1 (hk₅ c o c1 c2 c3 c4 e)
theorem Zcb{a b}{Q}(hh:A.handled=none)(D:ZipApart z TI TO i1 i2 l1 l2)
  (hz:IsZip s.heap z TI TO .none)(hTI:IsPair s.heap TI (.ref i1) (.ref i2))(hTO:IsPair s.heap TO a b)
  (h1:ZIt b1 s.heap i1 l1 k1)(h2:ZIt b2 s.heap i2 l2 k2)(hl1:ZSq b1 s.heap l1 xs)(hl2:ZSq b2 s.heap l2 ys)(hend:xs[k1]?=none\/ys[k2]?=none)
  (hE:∀h' e,(∀c o,c≠z->c≠TO->c≠i1->c≠i2->s.heap.get? c=some o->h'.get? c=some o)->(∃o,h'.get? e=some o/\o.cls= .type "StopIteration")->E (.ref e) {s with heap:=h'}):
  wpAny (model prog w) A (Builtin.«zip.__next__» ⟨[.ref z],[]⟩) Q E s:=by
 show wpAny _ _ (field (.ref z) 2>>=_) _ _ _;refine Qa (Us hz rfl (x:= .bool false) rfl (Qa (Us hz rfl (x:= .ref TI) rfl (Qa (Q9 hTI rfl (Qa (Qa (Us hz rfl (x:= .none) rfl (Qg ?_)))))))));refine Qa (wpAny_rule (Qa (Us hz rfl (x:= .ref TO) rfl (Qa (UW hz (by simp) fun h₁ n f=>(Qa (Qa (Qa (wpAny_onRaise ?_)))))))));cases hx:xs[k1]? with
 |none=>
  refine Qa (ZeM hh (h1.extBut f.extBut D.i1z) (hl1.extBut f.extBut D.l1z) hx fun h₂ e g he=>?_);obtain⟨r,j,k⟩:=he;have hz₂:=g _ _ D.i1z.symm n;refine UW hz₂ (by simp) fun h₃ _ h=>hE h₃ e (fun c o p _ q _ x=>h.extBut _ _ p (g _ _ q (f.extBut _ _ p x))) ⟨r,h.extBut _ _ (show e≠z from fun x=>by grind) j,k⟩
 |some x=>
  refine Qa (Zbn (h1.extBut f.extBut D.i1z) (hl1.extBut f.extBut D.l1z) hx fun h₂ h1₂ g=>Qg ?_);have i:=g.extBut _ _ D.TOi1 (f.extBut _ _ D.TOz hTO);refine Qa (Q9 i rfl (Qa (wpAny_updateSeq_pair i fun h₃ hTO₃ h=>(Qa (wpAny_letGo (Qg (Qa (Qa (wpAny_onRaise (Qa (ZeM hh (((h2.extBut f.extBut D.i2z).extBut g.extBut D.i12.symm).extBut h.extBut D.TOi2.symm)
   (((hl2.extBut f.extBut D.l2z).extBut g.extBut D.l2i1).extBut h.extBut D.l2TO) (show ys[k2]?=none by grind) fun h₄ e m he=>?_)))))))))))
  obtain⟨r,j,k⟩:=he;have hz₄:=m _ _ D.i2z.symm (h.extBut _ _ D.TOz.symm (g.extBut _ _ D.i1z.symm n));refine UW hz₄ (by simp) fun h₅ _ l=>hE h₅ e (fun c o p c2 q c4 x=>l.extBut _ _ p (m _ _ c4 (h.extBut _ _ c2 (g.extBut _ _ q (f.extBut _ _ p x))))) ⟨r,l.extBut _ _ (show e≠z from fun x=>by grind) j,k⟩
theorem Jc{x y a b}{Q}(D:ZipApart z TI TO i1 i2 l1 l2)
  (hz:IsZip s.heap z TI TO .none)(hTI:IsPair s.heap TI (.ref i1) (.ref i2))(hTO:IsPair s.heap TO a b)
  (h1:ZIt b1 s.heap i1 l1 k1)(h2:ZIt b2 s.heap i2 l2 k2)(hl1:ZSq b1 s.heap l1 xs)(hl2:ZSq b2 s.heap l2 ys)(hx:xs[k1]?=some x)(hy:ys[k2]?=some y)
  (hQ:∀h',IsZip h' z TI TO (rawInt s.heap.objs.size)->IsPair h' TO x y->ZIt b1 h' i1 l1 (k1+1)->ZIt b2 h' i2 l2 (k2+1)->IsPair h' s.heap.objs.size x y->h'.objs.size=s.heap.objs.size+1->
   (∀c o,c≠z->c≠TO->c≠i1->c≠i2->s.heap.get? c=some o->h'.get? c=some o)->Q (some (.ref s.heap.objs.size)) {s with heap:=h'}):
  wpAny (model prog w) A (pyNext (.ref z)) Q E s:=by
 have d:s.TypeIs (.ref z) _:=⟨_,hz,rfl⟩;exact Qa (wpAny_attempt (UO d F.slot_zip_next
  (UJ F.slot_zip_next d F.entry_zip_next
   (Zbo D hz hTI hTO h1 h2 hl1 hl2 hx hy fun h' k g j e i f h=>Qg (hQ h' k g j e i f h)) (F.args_zip_next_1 _))))
theorem Jw{a b}{Q}(hh:A.handled=none)(D:ZipApart z TI TO i1 i2 l1 l2)
  (hz:IsZip s.heap z TI TO .none)(hTI:IsPair s.heap TI (.ref i1) (.ref i2))(hTO:IsPair s.heap TO a b)
  (h1:ZIt b1 s.heap i1 l1 k1)(h2:ZIt b2 s.heap i2 l2 k2)(hl1:ZSq b1 s.heap l1 xs)(hl2:ZSq b2 s.heap l2 ys)(hend:xs[k1]?=none\/ys[k2]?=none)
  (hQ:∀h',(∀c o,c≠z->c≠TO->c≠i1->c≠i2->s.heap.get? c=some o->h'.get? c=some o)->Q none {s with heap:=h'}):wpAny (model prog w) A (pyNext (.ref z)) Q E s:=by
 have d:s.TypeIs (.ref z) _:=⟨_,hz,rfl⟩;refine Qa (wpAny_attempt (UO (name:=Str.ofString "__next__") d F.slot_zip_next
  (UJ F.slot_zip_next d F.entry_zip_next (Zcb hh D hz hTI hTO h1 h2 hl1 hl2 hend fun h' e f i=>?_) (F.args_zip_next_1 _))))
 obtain⟨o,h,g⟩:=i;exact Qa (wpAny_isInstance (T:="StopIteration") (b:=_) ⟨o,h,g⟩ isSubtype_stop (Qg (hQ _ f)))
end
abbrev Zih(b1:Bool)(h:Heap)(l1:Addr):Heap:=h.push {cls:= .type (zcl b1),data:= .fields #[.ref l1,.int 0 0]}
abbrev Zig(b1 b2:Bool)(h:Heap)(l1 l2:Addr):Heap:=(Zih b1 h l1).push {cls:= .type (zcl b2),data:= .fields #[.ref l2,.int 0 0]}
abbrev Zif(b1 b2:Bool)(h:Heap)(l1 l2:Addr):Heap:=(Zig b1 b2 h l1 l2).push {cls:= .type "tuple",data:= .seq #[.ref h.objs.size,.ref (Zih b1 h l1).objs.size]}
abbrev Zie(b1 b2:Bool)(h:Heap)(l1 l2:Addr):Heap:=(Zif b1 b2 h l1 l2).push {cls:= .type "tuple",data:= .seq #[.none,.none]}
abbrev ZdY(b1 b2:Bool)(h:Heap)(l1 l2:Addr):Heap:=(Zie b1 b2 h l1 l2).push {cls:= .type "zip",data:= .fields #[.none,.bool false,.bool false,.ref (Zig b1 b2 h l1 l2).objs.size,.ref (Zif b1 b2 h l1 l2).objs.size]}
theorem ZbD(b1 b2)(l1 l2:Addr)(xs ys:Array _):
  Meets (Builtin.«zip.__new__» ⟨[.type "zip",.ref l1,.ref l2],[]⟩) (fun _ R s=>ZSq b1 s.heap l1 xs/\ZSq b2 s.heap l2 ys/\
   R (.ok (.ret (.ref (Zie b1 b2 s.heap l1 l2).objs.size))) {s with heap:=ZdY b1 b2 s.heap l1 l2}):=
 .of_wp fun prog w A R s h=>by
  obtain⟨hp,g,d,tk,os⟩:=s;obtain⟨a,hl2,h⟩:=h;have hsub:=sub_zip
  wp_walk using Zdn a,Zdn (show ZSq b2 (Shared.heap ⟨hp.push {cls:= .type (zcl b1),data:= .fields #[.ref l1,.int 0 0]},g,d,tk,os⟩) l2 ys from ZSq.push hl2 _)
  exact⟨_,rfl,h⟩
section
variable{prog:Program}{w:World}{A:Around}{E:Value->Shared->Prop}{s:Shared}{b1 b2:Bool}
theorem Zgo{xs ys}{Q}(hl1:ZSq b1 s.heap l1 xs)(hl2:ZSq b2 s.heap l2 ys)
  (h:∀h',IsZip h' (s.heap.objs.size+4) (s.heap.objs.size+2) (s.heap.objs.size+3) .none->IsPair h' (s.heap.objs.size+2) (.ref s.heap.objs.size) (.ref (s.heap.objs.size+1))->
   IsPair h' (s.heap.objs.size+3) .none .none->ZIt b1 h' s.heap.objs.size l1 0->ZIt b2 h' (s.heap.objs.size+1) l2 0->h'.objs.size=s.heap.objs.size+5->
   (∀c o,s.heap.get? c=some o->h'.get? c=some o)->Q (.ref (s.heap.objs.size+4)) {s with heap:=h'}):
  wpAny (model prog w) A (call (.type "zip") [.ref l1,.ref l2]) Q E s:=by
 refine callType_new F.called_zip (by decide) (F.typeCall_zip_2 _ _) (F.newCall_zip_2 _ _) (fun d=>F.args_object_init_3 d _ _) F.entry_zip_new
  (ZbD b1 b2 l1 l2 xs ys) ⟨hl1,hl2,?_⟩
 have g:(Zih b1 s.heap l1).objs.size=s.heap.objs.size+1:=QR ..;have m:(Zig b1 b2 s.heap l1 l2).objs.size=s.heap.objs.size+2:=by simp_all
 have l:(Zif b1 b2 s.heap l1 l2).objs.size=s.heap.objs.size+3:=by simp_all
 have j:(Zie b1 b2 s.heap l1 l2).objs.size=s.heap.objs.size+4:=by simp_all
 have e:(ZdY b1 b2 s.heap l1 l2).get? (Zie b1 b2 s.heap l1 l2).objs.size=some _:=Ql _ rfl;have i:(ZdY b1 b2 s.heap l1 l2).get? (Zif b1 b2 s.heap l1 l2).objs.size=some _:=Qc _ (Ql _ rfl);have k:(ZdY b1 b2 s.heap l1 l2).get? (Zig b1 b2 s.heap l1 l2).objs.size=some _:=Qc _ (Qc _ (Ql _ rfl));have f:(ZdY b1 b2 s.heap l1 l2).get? (Zih b1 s.heap l1).objs.size=some _:=Qc _ (Qc _ (Qc _ (Ql _ rfl)));have n:(ZdY b1 b2 s.heap l1 l2).get? s.heap.objs.size=some _:=Qc _ (Qc _ (Qc _ (Qc _ (Ql _ rfl))));rw[m,l,j]at e;rw[g,m]at k;rw[l]at i;rw[g]at f;rw[j];exact⟨⟨_,e,rfl⟩,h _ e k i (by cases b1<;>exact⟨_,n,rfl,rfl⟩) (by cases b2<;>exact⟨_,f,rfl,rfl⟩) (show(ZdY b1 b2 s.heap l1 l2).objs.size=s.heap.objs.size+5 by simp_all) fun c o x=>
  Qc _ (Qc _ (Qc _ (Qc _ (Qc _ x))))⟩
end
end PySem
namespace L2
open PySem PySem.Spec PyProof.Rows
def SqZ(b:Bool)(K:PySem.W.Frag)(H:Hp)(a:Addr)(xs:List V):Prop:=match b with|true=>SqT K H a xs|false=>SqL K H a xs
theorem Inv.sqz{σ:St}{H}{s}{b:Bool}{a:Addr}{xs:List V}(I:Inv X pins σ H s)(h:SqZ b X.K H a xs):∃its,Vals xs its/\ZSq b s.heap a its.toArray:=by
 cases b
 ·obtain⟨its,r,p,_⟩:=I.list h
  exact⟨its,r,p.isList⟩
 ·obtain⟨its,r,p,_⟩:=I.tuple h
  exact⟨its,r,p⟩
theorem Inv.sqz_inj{σ:St}{H}{s}{b}{a}{xs ys}(I:Inv X pins σ H s)(h:SqZ b X.K H a xs)(h':SqZ b X.K H a ys):xs=ys:=by
 cases b
 ·exact I.list_inj h h'
 ·exact I.tuple_inj h h'
def ItG(b1 b2:Bool)(K:PySem.W.Frag)(a c:Addr):It:=
 ⟨fun i H=>∃xs ys x y,SqZ b1 K H a xs/\SqZ b2 K H c ys/\xs[i]?=some x/\ys[i]?=some y,
  fun i H x H'=>∃T u v,x= .ref T/\H T=none/\H'=upd H T (.tup [u,v])/\(∀xs,SqZ b1 K H a xs->xs[i]?=some u)/\∀ys,SqZ b2 K H c ys->ys[i]?=some v,
  fun i H=>∃xs ys,SqZ b1 K H a xs/\SqZ b2 K H c ys/\(xs.length<=i\/ys.length<=i)⟩
structure ZSt(b1 b2:Bool)(h:Heap)(z TI TO i1 i2 a c:Addr)(i:Nat):Prop where
 zip:IsZip h z TI TO .none
 ti:IsPair h TI (.ref i1) (.ref i2)
 to:∃u v,IsPair h TO u v
 it1:ZIt b1 h i1 a i
 it2:ZIt b2 h i2 c i
theorem Zg5{P}{w}{K}{elts}{x1}{pos}(z TI TO i1 i2 a c)(D:ZipApart z TI TO i1 i2 a c):
  Turn P w K (.Tuple elts x1 pos) (ItG b1 b2 K a c) [z,TI,TO,i1,i2] z (fun i h=>ZSt b1 b2 h z TI TO i1 i2 a c i)where
 mem:=by simp
 obj:=fun i h st b f=>by
  obtain⟨n,g,⟨u,v,j⟩,q1,q2⟩:=st;obtain⟨o1,_,e1,d1⟩:=q1.ob;obtain⟨o2,_,e2,d2⟩:=q2.ob;simp[Qn,Qt,Q3]at f;rcases f with rfl|rfl|rfl|rfl|rfl
  ·exact⟨_,n,fun v z=>nomatch z⟩
  ·exact⟨_,g,fun v z=>nomatch z⟩
  ·exact⟨_,j,fun v z=>nomatch z⟩
  ·grind
  ·grind
 keep:=fun i h h' st k=>by
  obtain⟨n,g,⟨u,v,j⟩,q1,q2⟩:=st;exact⟨k z (by simp) _ n,k TI (by simp) _ g,⟨u,v,k TO (by simp) _ j⟩,q1.at (k i1 (by simp)),q2.at (k i2 (by simp))⟩
 item:=by
  intro X hP hw hK hc i F s σ H E I hf st hg;subst hP hw hK;obtain⟨xs,ys,x,y,m,l,hx,hy⟩:=hg;obtain⟨its,rv,p⟩:=I.sqz m;obtain⟨jts,r,pl⟩:=I.sqz l;obtain⟨u,hu,ru⟩:=rv.get hx;obtain⟨v,hv,rv'⟩:=r.get hy;obtain⟨n,g,⟨u0,v0,j⟩,h1,h2⟩:=st;refine Jc D n g j h1 h2 p pl (by simpa using hu) (by simpa using hv) fun h' a1 a2 a3 a4 a5 a6 hk=>⟨_,rfl,wpAny_letOwnedTupleGo_zip a1 fun h2' C t=>?_⟩;have hn:=I.hok.fresh (Qe _);refine⟨.ref s.heap.objs.size,upd H s.heap.objs.size (.tup [x,y]),(Inv.turnedL (ch:=[z]) (I.turnedL (t':=s.toks) (ch:=[z,TI,TO,i1,i2]) (fun b o f q=>hk b o (fun z=>f (by simp[z])) (fun z=>f (by simp[z])) (fun z=>f (by simp[z])) (fun z=>f (by simp[z])) q) fun b f=>hf b f) (fun b o f q=>(t.2 b (fun z=>f (by simp[z]))).trans q) fun b f=>by simp_all).track (I.fpOk (Qe _) hn) I.sz ⟨ZaK rfl,[u,v],.cons ru (.cons rv' .nil),⟨_,((t.2 _ (Uo (Qh n))).trans a5),rfl,_,rfl⟩⟩,rfl,
   ⟨_,x,y,rfl,hn,rfl,fun zs hs=>by rw[I.sqz_inj hs m];exact hx,fun zs hs=>by rw[I.sqz_inj hs l];exact hy⟩,
   ⟨C,(t.2 _ D.TIz).trans (hk _ _ D.TIz D.TITO D.TIi1 D.TIi2 g),⟨_,_,(t.2 _ D.TOz).trans a2⟩,a3.at fun _ e=>(t.2 _ D.i1z).trans e,a4.at fun _ e=>(t.2 _ D.i2z).trans e⟩,fun b f=>?_⟩
  rw[Zi]
  ·exact((hf b f).1)
  ·intro e
   have:∃o,s.heap.get? b=some o:=by
    simp[Qn,Qt,Q3]at f;rcases f with rfl|rfl|rfl|rfl|rfl
    ·exact⟨_,n⟩
    ·exact⟨_,g⟩
    ·exact⟨_,j⟩
    ·obtain⟨o,_,q,_⟩:=h1.ob;exact⟨o,q⟩
    ·obtain⟨o,_,q,_⟩:=h2.ob;exact⟨o,q⟩
   obtain⟨o,q⟩:=this;rw[e]at q;exact QU _ (Qh q)
 done:=by
  intro X hP hw hK hc i F s σ H E I hf st hg;subst hP hw hK;obtain⟨xs,ys,m,l,A⟩:=hg;obtain⟨its,rv,p⟩:=I.sqz m;obtain⟨jts,r,pl⟩:=I.sqz l;have l1:=rv.length;have l2:=r.length;obtain⟨n,g,⟨u0,v0,j⟩,h1,h2⟩:=st;refine Jw (I.ok.hd hc) D n g j h1 h2 p pl ?_ fun h' hk=>⟨rfl,I.turnedL (t':=s.toks) (ch:=[z,TI,TO,i1,i2]) (fun b o f q=>hk b o (fun z=>f (by simp[z])) (fun z=>f (by simp[z])) (fun z=>f (by simp[z])) (fun z=>f (by simp[z])) q) fun b f=>hf b f⟩;rcases A with q|q
  ·exact .inl (by simp;omega)
  ·exact .inr (by simp;omega)
 self:=fun _ _ _ _ _ st h=>wpAny_pyIter_zip st.zip h
def Zft(b1 b2:Bool)(K:PySem.W.Frag)(ta:TA):TI:=fun σ H R=>ta σ H fun vs H1=>∃a c,vs=[.ref a,.ref c]/\(∃xs,SqZ b1 K H1 a xs)/\(∃ys,SqZ b2 K H1 c ys)/\R (ItG b1 b2 K a c) H1
theorem boot_zip:bootBuiltins "zip"=some (.type "zip"):=by decide+kernel
theorem JH{X}{elts}{x1}{tpos}{a b}{ta}{p pos}(hg:Gl X "zip")(hm:X.mg "zip"=none)(ha:PA X [a,b] ta)(hpl:ZV a=true)(hpl2:ZV b=true):PI X (.Tuple elts x1 tpos) (.Call (.Name "zip" p) [a,b] [] pos) (Zft b1 b2 X.K ta):=by
 refine fun f s σ H R I h=>Call_ (Jq I hg hm boot_zip (UT (thn (ha pos f s σ H _ I h) fun _ o xq1=>?_) (ZY hpl) (Zal (by simp[hpl2]))));obtain⟨_,y,c,x,B⟩:=xq1;obtain⟨w,v,e,⟨_,g⟩,⟨_,k⟩,q⟩:=B;subst e;obtain⟨u,_,rfl,C,j⟩:=vals2 x;cases C;cases j;obtain⟨_,_,t⟩:=c.sqz g;obtain⟨_,_,n⟩:=c.sqz k;refine Zgo t n fun _ m i l z D _ A=>wpAny_pyIter_zip m ⟨_,_,_,_,y,rfl,(c.kept (t':=o.toks) A),
  Zg5 _ _ _ _ _ w v (zipApart_new t.lt n.lt),⟨m,i,⟨_,_,l⟩,z,D⟩,fun b r=>?_,q⟩
 have d:o.heap.objs.size<=b:=by
  simp[Qn,Qt,Q3]at r;rcases r with rfl|rfl|rfl|rfl|rfl
  ·simp
  ·simp_all
  ·simp_all
  ·exact Qe _
  ·simp_all
 exact c.fpOk d (c.hok.fresh d)
theorem YZ{K}{a c}{xs ys}{g:TG}{tb:TS}{D:Ends}{σ:St}{H:Hp}(Pv:Nat->St->Hp->Prop)(hlen:xs.length=ys.length)(h0:Pv 0 σ H)(hl:∀i σ H,i<=xs.length->Pv i σ H->SqZ b1 K H a xs/\SqZ b2 K H c ys)
  (hs:∀i x y σ H,xs[i]?=some x->ys[i]?=some y->Pv i σ H->∀T H1,Same H H1->H1 T=some (.tup [x,y])->g (.ref T) σ H1 fun σ2 H2=>tb {D with nx:=Pv (i+1),ct:=Pv (i+1),bk:=D.nx} σ2 H2) (hd:∀σ H,Pv xs.length σ H->D.nx σ H):
  ∃W:Nat->Nat->St->Hp->Prop,(∃m,W 0 m σ H)/\∀i m σ H,W i m σ H->
   ((ItG b1 b2 K a c).stop i H/\D.nx σ H)\/((ItG b1 b2 K a c).go i H/\∃N:St->Hp->Prop,(∀σ' H',N σ' H'->∃m',m'<m/\W (i+1) m' σ' H')/\∀x H',(ItG b1 b2 K a c).yld i H x H'->g x σ H' fun σ2 H2=>tb {D with nx:=N,ct:=N,bk:=D.nx} σ2 H2):=by
 refine⟨fun i m σ H=>m=xs.length-i/\i<=xs.length/\Pv i σ H,⟨xs.length,by simp,QE _,h0⟩,?_⟩;rintro i m σ H ⟨rfl,k,p⟩;obtain⟨h,d⟩:=hl i σ H k p;by_cases b:i<xs.length
 ·refine .inr ⟨⟨xs,ys,xs[i],ys[i],h,d,by simp[b],by simp[(show i<ys.length by omega)]⟩,_,fun σ' H' n=>⟨_,by omega,rfl,b,n⟩,fun x H' y=>?_⟩
  obtain⟨T,u,v,rfl,o,rfl,l,j⟩:=y;exact hs i u v σ H (l xs h) (j ys d) p T _ (Z0 o) Zd
 ·have e:i=xs.length:=by omega
  subst e;exact .inl ⟨⟨xs,ys,h,d,.inl (Qe _)⟩,hd σ H p⟩
theorem Zki:type_of%(@JH true false):=JH
theorem ZiU:type_of%(@YZ true false):=YZ
abbrev Itz:=ItG true false
abbrev Zok:=Zft true false
end L2
namespace PySem
open Sem (wp)
open PyProof.Rows
section
variable{prog:Program}{w:World}{A:Around}{R:Result->Shared->Prop}{I:Addr}{fp wr:List Addr}{n:Nat}{P:Nat->Value->Prop}{St:Nat->Heap->Prop}{d:Value}
theorem ZfX(W:Walks prog w A.in1 I fp wr n P St)(bt)(hcmp:CmpOf prog w A.in1 .Gt P bt)(S)(hSf:S ∉ fp):
  ∀(k j)(s)(vb)(c),n-(j+1)=k->j+1<=n->St (j+1) s.heap->P (argBest bt j) vb->
  s.heap.get? S=some {cls:= .type "list",dict:=none,data:= .seq #[vb,vb] c,slots:=#[]}->
  (∀v h' tk,P (argBest bt (n-1)) v->(∀b o,b ∉ wr->b≠S->s.heap.get? b=some o->h'.get? b=some o)->R (.ok (.ret v)) {s with heap:=h',toks:=tk})->
  codeAny (model prog w) A (.builtin "max.loop" ⟨[.ref I,.none,.ref S],[("default",d)]⟩) R s:=by
 have hSw:=fun h=>hSf (W.sub _ h);have hname:(toString "max"++toString ".loop")="max.loop":=by decide
 intro k
 induction k with
 |zero=>
  intro j s vb c hk hj hst hPb hS hR;have hin:j+1=n:=by omega
  refine Ua F.entry_max_loop (Qa (Q9 hS rfl (Qa (wpAny_tryCatch (W.done s _ _ (hin▸hst) fun h' tk f=>?_)))));have l:=f S _ hSw hS;refine Qa (wpAny_updateSeq l rfl (Qa (wpAny_letGo (Qg (hR vb _ tk (by rw[<-hin];exact hPb) fun b o a i e=>(QV _ _ (Ne.symm i)).trans (f b o a e))))))
 |succ k ih=>
  intro j s vb c hk hj hst hPb hS hR;have hlt:j+1<n:=by omega
  refine Ua F.entry_max_loop ?_;rw[Around.under_plainId F.plain_max_loop _];refine Qa (Q9 hS rfl (Qa (wpAny_tryCatch (W.item (j+1) s _ _ hlt hst fun v h' tk hP hst' f=>?_))));have l:=f S _ hSw hS;show wpAny _ A.in1 (tryCatch (holding [v,v] (richCompare .Gt v vb>>=_)) _>>=_) _ _ _;refine Qa (wpAny_tryCatch (Q5 (Qa (hcmp (j+1) (argBest bt j) v vb _ _ _ hP hPb (Qa (Q5 (Uu (Qa (wpAny_letGo (Qg ?_))))))))));cases hb:bt (j+1) (argBest bt j)with
  |true=>
   simp[if_true];refine Qa (wpAny_updateSeq l rfl (Qa (wpAny_letGo ?_)));rw[hname];refine Qg ⟨UD F.plain_max_loop _,ih (j+1) _ v _ (by omega) hlt (W.frame _ _ _ hst' fun b hbf o e=>?_) (by simp[argBest,hb,if_true];exact hP) (Uh _ l rfl)
    fun v' h'' tk'' hP' hk''=>?_⟩
   ·exact(QV _ _ (fun h:S=b=>hSf (by rw[h];exact hbf))).trans e
   ·exact hR v' h'' tk'' hP' fun b o a i e=>hk'' b o a i ((QV _ _ (Ne.symm i)).trans (f b o a e))
  |false=>
   simp[UV,if_false];refine Qa (wpAny_letGo ?_);rw[hname];exact Qg ⟨UD F.plain_max_loop _,ih (j+1) _ vb c (by omega) hlt hst' (by simp[argBest,hb,UV,if_false];exact hPb) l fun v' h'' tk'' hP' hk''=>(hR v' h'' tk'' hP' fun b o a i e=>hk'' b o a i (f b o a e))⟩
theorem Ze4(W:Walks prog w A.in1 I fp wr n P St)(bt)(hcmp:CmpOf prog w A.in1 .Gt P bt)(S)(hSf:S ∉ fp)(hn:0<n){s}{c}(hst:St 0 s.heap)
  (hS:s.heap.get? S=some {cls:= .type "list",dict:=none,data:= .seq #[] c,slots:=#[]})
  (hR:∀v h' tk,P (argBest bt (n-1)) v->(∀b o,b ∉ wr->b≠S->s.heap.get? b=some o->h'.get? b=some o)->R (.ok (.ret v)) {s with heap:=h',toks:=tk}):
  codeAny (model prog w) A (.builtin "max.loop" ⟨[.ref I,.none,.ref S],[("default",d)]⟩) R s:=by
 refine Ua F.entry_max_loop (Qa (Q9 hS rfl (Qa (wpAny_tryCatch (W.item 0 s _ _ hn hst fun v h' tk t i g=>?_)))));have j:=g S _ (fun h=>hSf (W.sub _ h)) hS;show wpAny _ _ (updateSeq S (fun _=>#[v,v])>>=_) _ _ _;refine Qa (wpAny_updateSeq j rfl ?_);refine Qg ⟨UD F.plain_max_loop _,ZfX W bt hcmp S hSf _ 0 _ v _ rfl hn (W.frame _ _ _ i fun b p o e=>?_) t (Uh _ j rfl) fun u r k q l=>?_⟩
 ·exact(QV _ _ (fun h:S=b=>hSf (by rw[h];exact p))).trans e
 ·exact hR u r k q fun b o m f e=>l b o m f ((QV _ _ (Ne.symm f)).trans (g b o m e))
theorem maxD_empty(W:Walks prog w A.in1 I fp wr n P St)(S)(hSf:S ∉ fp)(hn:n=0){s}{c}(hst:St 0 s.heap)
  (hS:s.heap.get? S=some {cls:= .type "list",dict:=none,data:= .seq #[] c,slots:=#[]})
  (hR:∀h' tk,(∀b o,b ∉ wr->s.heap.get? b=some o->h'.get? b=some o)->R (.ok (.ret d)) {s with heap:=h',toks:=tk}):
  codeAny (model prog w) A (.builtin "max.loop" ⟨[.ref I,.none,.ref S],[("default",d)]⟩) R s:=by
 subst hn;exact Ua F.entry_max_loop (Qa (Q9 hS rfl (Qa (wpAny_tryCatch (W.done s _ _ hst fun h' tk a=>(Qa (wpAny_rule (Qg (hR h' tk a)))))))))
end
section
variable{prog:Program}{w:World}{A:Around}{E:Value->Shared->Prop}{s:Shared}
theorem ZhX(a v):argsOk "max" ⟨[a],[(Str.ofString "default",v)]⟩:=by kernel_rfl
theorem Zgr{x d}{Q}
  (h:wpAny (model prog w) A.in1 (pyIter x) (fun it s₂=>E7 fun I fp wr n P St bt=>it= .ref I/\Walks prog w A.in1 I fp wr n P St/\St 0 s₂.heap/\(∀b∈fp,b<s₂.heap.objs.size)/\CmpOf prog w A.in1 .Gt P bt/\
   (n=0->∀h' tk,(∀b o,b ∉ wr->s₂.heap.get? b=some o->h'.get? b=some o)->Q d {s₂ with heap:=h',toks:=tk})/\
   (0<n->∀v h' tk,P (argBest bt (n-1)) v->(∀b o,b ∉ wr->s₂.heap.get? b=some o->h'.get? b=some o)->Q v {s₂ with heap:=h',toks:=tk})) E s):
  wpAny (model prog w) A (call (.builtin "max") [x] [(Str.ofString "default",d)]) Q E s:=by
 refine kmk_tree F.kind_max F.plain_max F.entry_max (ZhX _ _) (Qa (wpAny_of_eq rfl (Qa (Qg (Qa (Q2 h (fun it s₂ p=>?_) fun _ _ e=>e))))));obtain⟨I,fp,wr,n,P,St,bt,rfl,W,f,k,g,m,q⟩:=p;refine Qa (UF ?_);have c:=fun r=>QU _ (k _ r);rcases Nat.eq_zero_or_pos n with i|i
 ·refine Qg ⟨UD F.plain_max_loop _,maxD_empty W s₂.heap.objs.size c i (W.frame _ _ _ f fun b _ o e=>Qc _ e) (Ql _ rfl) fun h' tk j=>?_⟩
  exact m i h' tk fun b o a e=>j b o a (Qc _ e)
 ·refine Qg ⟨UD F.plain_max_loop _,Ze4 W bt g s₂.heap.objs.size c i (W.frame _ _ _ f fun b _ o e=>Qc _ e) (Ql _ rfl) fun v h' tk l j=>?_⟩
  exact q i v h' tk l fun b o a e=>j b o a (Qo (Qh e)) (Qc _ e)
end
end PySem
namespace L2
open PySem PySem.Spec PyProof.Rows
def Zlj(K:PySem.W.Frag)(d:Int)(ta:TE):TE:=fun σ H Q=>ta σ H fun x H1=>∃p,∃ns,x= .ref p/\SqL K H1 p (ns.map V.int)/\∀M,((ns=[]/\M=d)\/(M∈ns/\∀a∈ns,a<=M))->Q (.int M) H1
theorem boot_max:bootBuiltins "max"=some (.builtin "max"):=by decide+kernel
theorem Zi4{X}{a ed}{ta}{d}{p pos kpos}(hc:X.calm=true)(ha:PE X a ta)(hd:PE X ed (tC (.int d)))(hg:Gl X "max":=by rfl)(hm:X.mg "max"=none:=by rfl)(hs:starEach [a] X.env=[(false,eval a X.env)]:=by rfl):
  PE X (.Call (.Name "max" p) [a] [⟨some "default",ed,kpos⟩] pos) (Zlj X.K d ta):=by
 refine fun pins s σ H Q I h=>Up (Jq I hg hm boot_max (callWith_kw (thn ((Zfd ha Za hs) _ _ s σ H (Zhb fun x y=>∃p,∃c:List _,x= .ref p/\SqL _ y p _/\∀M,((c=[]/\M=d)\/(M∈c/\∀a∈c,a<=M))->Q _ y) I h) fun us s1 xq1=>?_) (by rw[hs];rfl) (by rw[hs];rfl)));obtain⟨w,y,I1,r1,q1⟩:=xq1;obtain⟨x1,rfl,q1⟩:=Zd8 q1;obtain⟨u1,rfl,ru⟩:=vals1 r1;obtain⟨l,c,rfl,hp,q⟩:=q1;cases ru;refine wpAny_evalAll_cons (Qa (thn (hd _ s1 σ y (fun v H2=>v= .int d/\H2=y) I1 ⟨rfl,rfl⟩) fun ud C⟨v2,H2,I2,r2,e1,r⟩=>Qa (wpAny_standAt (Qg (wpAny_evalAll_nil ?_)))));subst e1 r;obtain⟨td,rfl⟩:=r2;obtain⟨w,rv,pl,hz⟩:=I2.list hp;have hl:=pl.isList;have f:l<C.heap.objs.size:=by obtain⟨_,e,_⟩:=hl;exact Qh e
 have g:w.length=c.length:=by have:=rv.length;simpa using this.symm
 have m:∀i v,w.toArray[i]?=some v->∃t,v=Value.int (c.getD i 0) t:=by
  intro i v e;have hi:i<c.length:=by grind
  obtain⟨u,r,r2⟩:=rv.get (i:=i) (x:= .int c[i]) (by simp_all);rw[(show w[i]?=some v by simpa using e)]at r;cases r;obtain⟨t,rfl⟩:=r2;exact⟨t,by simp_all⟩
 have k:∀(it)(B:Heap),(∀b o,b ∉ [C.heap.objs.size]->(C.heap.push it).get? b=some o->B.get? b=some o)->∀b o,C.heap.get? b=some o->B.get? b=some o:=fun it B z b o r=>z b o (fun hm=>by
  rw[Qf.mp hm]at r;exact QU _ (Qh r)) (Qc _ r)
 refine Zgr (UN hl ⟨_,_,_,_,_,_,_,rfl,Walks.list (A:=X.A.in1) (I2.ok.hd hc) _ l (Qo f) w.toArray,⟨⟨_,Ql _ rfl,rfl,rfl⟩,hl.push _⟩,fun b hb=>?_,CmpOf.ints_gt (fun i=>c.getD i 0) m,fun hn B tk z=>?_,fun hn v B tk hP z=>?_⟩)
 ·rw[QR]
  simp[Qn,Qt,Q3]at hb;rcases hb with rfl|rfl
  ·exact Q7 _
  ·exact Uk f
 ·rw[QA,g]at hn
  exact⟨.int d,_,I2.kept (t':=tk) (k _ _ z),⟨td,rfl⟩,q d (.inl ⟨List.length_eq_zero_iff.mp hn,rfl⟩)⟩
 ·obtain⟨t,rfl⟩:=m _ _ hP
  obtain⟨h1,h2⟩:=argBest_gt (fun i=>c.getD i 0) (w.toArray.size-1);rw[QA,g]at h1 h2 hn;rw[QA,g];refine⟨.int _,_,I2.kept (t':=tk) (k _ _ z),⟨t,rfl⟩,q _ (.inr ⟨?_,fun a ha=>?_⟩)⟩
  ·have f:argBest (fun i j=>decide (c.getD i 0>c.getD j 0)) (c.length-1)<c.length:=by omega
   rw[Qi,Qb f];exact List.getElem_mem f
  ·obtain⟨j,hj,rfl⟩:=QW ha
   have:=h2 j (by omega);rw[Qi (i:=j),Qb hj]at this;exact this
section
variable{X:Cx}
inductive gGetL(o:V)(i:V)(H:Hp)(Q:VK):Prop
 |mk (p xs:_) (k:Nat) (v:_) (_:o= .ref p) (_:i= .int k) (_:H p=some (.lst xs)) (_:xs[k]?=some v) (_:Q v H)
theorem Zh7:Zna X gGetL:=by
 intro _ s σ H o i _ _ Q I f d h;obtain⟨p,_,k,v,rfl,rfl,c,b,q⟩:=h;cases f;obtain⟨t,rfl⟩:=d;obtain⟨_,r,e,_⟩:=I.list (SqL.of (K:=X.K) c);obtain⟨w,_,a⟩:=r.get b;have _:=(Qd.mp b).1;have _:=ZbF;exact wpAny_getItem_list e.isList (Int.natCast_nonneg k) (by omega) (by simp_all) ⟨v,H,I,a,q⟩
def rSetN:V->V->V->Hp->(Hp->Prop)->Prop:=fun o i v H Q=>∃p xs,∃k:Nat,o= .ref p/\i= .int k/\H p=some (.lst xs)/\k<xs.length/\Q (upd H p (.lst (xs.set k v)))
theorem Yl:Zjn X rSetN:=by
 intro _ s σ H o i v l b u Q I e f j h;obtain⟨p,d,k,c,g,a,_,q⟩:=h;refine set_list _ s σ H o i v l b u Q I e f j ⟨p,d,k,k,c,g,a,?_,q⟩;unfold ixN
 simp_all
end
theorem Zjv{X}{scope}{cl}{N}{bs}{tg iter elt}{ifs}{pos spos px}{x}{wi}{g gt}{tt}{te}(B:Blk X scope cl N bs)(hc:X.calm=true)
  (hi:PI X tg iter wi)(hg:∀C fp s H,PG (Z4 X scope cl C N fp s H) tg g) (ht:∀C fp s H,PTs (Z4 X scope cl C N fp s H) ifs tt) (he:∀C fp s H,PE (Z4 X scope cl C N fp s H) elt te)
  (hgt:PG X (.Name x px) gt) (hsw:swapsWith (.ListComp elt [⟨tg,iter,ifs,0⟩] scope pos) (some (.Name x px)) spos.line X.env=pure true)
  (hs:∀x,foldedSetIterable iter X.env x=pure x:=by intro _;rfl):
  PS X (.Assign [.Name x px] (.ListComp elt [⟨tg,iter,ifs,0⟩] scope pos) spos) (Zg8 (tLC bs wi g tt te) gt):=by
 intro j s σ H D I h;rw[exec_Assign_Name_used _ _ _ _ hsw];refine Qa (wpAny_standAt (Qa (Qa (Q2 (wpAny_comprehension_free (use:=some (assign (.Name x px) X.env)) (Q:=fun _ s'=>∃σ' O,Inv X j σ' O s'/\D.nx σ' O) rfl hs B.clos B.kind B.names (thn (hi j s σ H _ I h) fun v s1 h1=>thn h1 fun itv a h2=>?_)) (fun _ s' hq=>Qg (Qg hq)) fun _ _ e=>e))));obtain⟨it,fp,tn,J,H2,rfl,I2,T,t,f2,W,⟨m0,w0⟩,turn⟩:=h2;refine UF (wpAny_newFunctionEnv B.cell (by intro y hy;simp at hy) (fun h₁ hns₁ S=>?_) B.kind);generalize hG:a.heap.push {cls:= .type "list",dict:=none,data:= .seq ([]:List Value).toArray}=G at hns₁ S⊢;have hC:G.objs.size=a.heap.objs.size+1:=by rw[<-hG,QR]
 have hDC:a.heap.objs.size≠G.objs.size:=by rw[hC];exact Qo (Q7 _)
 have L:a.heap.objs.size<=G.objs.size:=by rw[hC];exact Nat.le_succ _
 have old:=fun b o e=>S.extBut b o (by rw[hC];exact Qo (Uk (Qh e))) (Qc _ (hG▸Qc _ e));have R:∀{D:Addr}{o:Obj}{O:Hp},a.heap.objs.size<=D->(∀b∈fp,O b=none)->∀b∈fp,Zai (Z4 X scope cl G.objs.size N fp a H2) [(D,o)] O b:=fun{D o O} hD hn b f=>by
  obtain⟨ob,eb,_⟩:=T.obj _ _ t b f;obtain⟨_,f1,f3,f4,f5,_⟩:=f2 b f;have ok:=B.ok I2 f2 (T.obj _ _ t) (C:=G.objs.size) L;refine⟨hn b f,(ok.exf b f).1,ok.exfs b f,.inl f,(ok.exf b f).2,fun p hp=>?_⟩;have e:p=(D,o):=by simpa[Z4]using hp
  subst e;exact Uo (Qs (Qh eb) hD)
 have loop:∀s₃:Shared,s₃={a with heap:=h₁,toks:=a.toks+([]:List (Str×Value)).length}->
   codeAny (model X.prog X.w) X.A (.compLoop (.ListComp elt [⟨tg,iter,ifs,0⟩] scope pos) 0 (.ref it) (.ref a.heap.objs.size) (compEnvC scope cl G.objs.size X.env))
    (compPost (model X.prog X.w) X.A X.xe (some (assign (.Name x px) X.env)) (fun _ s'=>∃σ' O,Inv X j σ' O s'/\D.nx σ' O) (.ref a.heap.objs.size) G.objs.size) s₃:=by
  rintro s₃ rfl;refine YB (fun n s'=>E6 fun i P l k σ' O=>Inv (Z4 X scope cl G.objs.size N fp a H2) [(a.heap.objs.size,{cls:= .type "list",data:= .seq (List.toArray l) k})] σ' O s'/\Vals P l/\tn i s'.heap/\(∀b∈fp,O b=none)/\W i n P σ' O) ?_ m0
   ⟨0,[],[],0,bst bs σ,H2,B.inv I2 f2 (T.obj _ _ t) L old hns₁ (S.extBut _ _ hDC (Qc _ (hG▸Ql _ rfl))) (Qe _) hDC (fun v z=>nomatch z),.nil,T.keep _ _ _ t fun b _ o e=>old b o e,fun b f=>(f2 b f).1,w0⟩
  rintro n s3 ⟨i,P,l,k,σ3,M,I3,rv,st3,fr3,w3⟩;rcases turn i n P σ3 M w3 with⟨stop,hz,qn⟩|⟨go,hz,NN,hNN,step⟩
  ·refine thn (T.done (Z4 X scope cl G.objs.size N fp a H2) rfl rfl rfl hc i _ s3 σ3 M (fun _ _=>False) I3 (R (Qe _) fr3) st3 stop) fun r s4 xq1=>?_
   obtain⟨hr,I4⟩:=xq1;subst hr;have pD4:=I4.pin _ (Qm _ (.head _));obtain⟨m4,hn4,_⟩:=I4.loc;have k5:∀b o,b≠G.objs.size->s4.heap.get? b=some o->s4.heap.get? b=some o:=fun b o f e=>e;have hC4:M G.objs.size=none:=I4.free;have hok5:HOk X.prog X.w (upd M a.heap.objs.size (.lst P)) s4.heap:=fun b u e=>by
    by_cases f:b=a.heap.objs.size
    ·subst f
     rw[Zd]at e;cases e;exact⟨hz,l,k,rv,(pD4.1)⟩
    ·rw[Zi f]at e
     have nC:∀c u',M c=some u'->c≠G.objs.size:=fun c u' q z=>by rw[z,hC4]at q;cases q
     have nD:∀c u',M c=some u'->c≠a.heap.objs.size:=fun c u' q z=>by rw[z,pD4.2.1]at q;cases q
     refine(I4.hok b u e).stay (fun c v hc' q=>k5 c v ?_ q) (fun c q=>by rw[Zi (nD c _ q)];exact q) fun c xs q=>by rw[Zi (nD c _ q)];exact q
     rcases hc' with z|z
     ·rw[z];exact nC b u e
     ·exact nC c _ z
   have E:Un (frs X.stack) fp H2 M a.heap s4.heap:=I4.base;have neC:∀b o,a.heap.get? b=some o->b≠G.objs.size:=fun b o e=>Qo (Qs (Qh e) L);have un5:Un (frs X.stack) fp H2 (upd M a.heap.objs.size (.lst P)) a.heap s4.heap:={
    keep:=fun b o e n f hx=>k5 b o (neC b o e) (E.keep b o e n f hx)
    slot:=fun b o e n f hx=>let⟨sl,q⟩:=E.slot b o e n f hx;⟨sl,k5 b _ (neC b o e) q⟩
    free:=fun b o e n hx=>by rw[Zi ((show∀b o,a.heap.get? b=some o->b≠a.heap.objs.size from fun b o e=>Qo (Qh e)) b o e)];exact E.free b o e n hx
    there:=fun b o e hx=>let⟨o',q⟩:=E.there b o e hx;⟨o',k5 b _ (neC b o e) q⟩
    tups:=fun b xs e=>by rw[Zi (Zq e (I2.hok.fresh (Qe _)))];exact E.tups b xs e
    frzs:=fun b o u e=>by rw[Zi (Zq e (I2.hok.fresh (Qe _)))];exact E.frzs b o u e
    tbls:=fun b ps e=>by rw[Zi (Zq e (I2.hok.fresh (Qe _)))];exact E.tbls b ps e}
   have IE:Inv X j σ (upd M a.heap.objs.size (.lst P)) s4:=I2.call' (s':=s4) (I4.os) un5 hok5 I4.bare (fun b f=>by
    obtain⟨_,f1,f3,f4,f5,f6⟩:=f2 b f;exact⟨f4,f1,f5,f6⟩)
   have hnC:(upd M a.heap.objs.size (.lst P)) G.objs.size=none:=by rw[Zi (Ne.symm hDC)];exact hC4
   obtain⟨_,c1,c2,c3,c4,c5⟩:Zai X j (upd M a.heap.objs.size (.lst P)) G.objs.size:=I2.fpOk L hnC;obtain⟨oC,es4,ep4,hoC,rC⟩:=hn4;have IP:Inv X (j++[(G.objs.size,oC)]) σ (upd M a.heap.objs.size (.lst P)) s4:=IE.pins_of fun p hp=>by
    rcases Qw.mp hp with z|z
    ·exact IE.pin p (Qm _ z)
    ·rw[Qf.mp z]
     exact⟨hoC,hnC,c1,c2,fun v z=>by rw[rC.1]at z;cases z⟩
   refine thn (hgt (j++[(G.objs.size,oC)]) s4 σ _ (.ref a.heap.objs.size) (.ref a.heap.objs.size) _ IP rfl (qn _ pD4.2.1)) fun _ s6 xq1=>?_;obtain⟨σ6,H6,I6,q6⟩:=xq1;have pC:=I6.pin (G.objs.size,oC) (Qm _ (Qm _ (.head _)));refine⟨m4,⟨oC,es4,ep4,pC.1,rC⟩,fun h7 sb7=>⟨σ6,H6,I6.unpinned.turned (it:=G.objs.size) (t':=s6.toks) (fun b o f e=>sb7.extBut b o f e) pC.2.1 c1 c3 c4 c5,q6⟩⟩
  ·refine thn (T.item (Z4 X scope cl G.objs.size N fp a H2) rfl rfl rfl hc i _ s3 σ3 M (fun _ _=>False) I3 (R (Qe _) fr3) st3 go) fun r s4 xq1=>?_
   obtain⟨u,hr,h4⟩:=xq1;subst hr;refine thn h4 fun _ s5⟨x,H5,I5,r5,y5,st5,fr5⟩=>thn (hg _ _ _ _ _ s5 σ3 H5 x u _ (I5.pinned (R (Qe _) fr5) (T.obj _ _ st5)) r5 (step x H5 y5)) fun _ s6⟨σ6,H6,I6,q6⟩=>thn (ht _ _ _ _ _ s6 σ6 H6 _ I6 q6) fun ok s7 xq1=>?_;obtain⟨H7,I7,q7⟩:=xq1;have K:∀{σ8:St}{H8:Hp}{s8:Shared}{pl:List (Addr×Obj)},Inv (Z4 X scope cl G.objs.size N fp a H2) (pl++YG fp s5.heap) σ8 H8 s8->tn (i+1) s8.heap/\∀b∈fp,H8 b=none:=fun{σ8 H8 s8 pl} I8=>
    ⟨T.keep _ _ _ st5 fun b f o e=>(I8.pin (b,o) (Qm _ (Qm _ (Y0 f e)))).1,fun b f=>by
     obtain⟨o,e,d⟩:=T.obj _ _ st5 b f;exact(I8.pin (b,o) (Qm _ (Qm _ (Y0 f e)))).2.1⟩
   cases ok with
   |false=>
    rw[if_neg QI]at q7⊢;obtain⟨m',hm,w7⟩:=hNN _ _ _ q7;exact⟨m',hm,i+1,P,l,k,σ6,H7,I7.unpinned,rv,(K I7).1,(K I7).2,w7⟩
   |true=>
    rw[if_pos rfl]at q7⊢;refine thn (he _ _ _ _ _ s7 σ6 H7 _ I7 q7) fun y s8 xq1=>?_;obtain⟨v8,H8,I8,r8,q8⟩:=xq1;obtain⟨m',hm,w8⟩:=hNN _ _ _ q8;have F:=I8.pin _ (Qm _ (Qz _ (.head _)));have hl:=rv.length;refine wpAny_list_append_plain ⟨k,F.1⟩ (fun h9 pl9 sb9=>?_) (by rw[QA];omega);obtain⟨k9,e9⟩:=pl9;have I9:Inv (Z4 X scope cl G.objs.size N fp a H2) (YG fp s5.heap) σ6 H8 {s8 with heap:=h9}:=(show Inv (Z4 X scope cl G.objs.size N fp a H2) (YG fp s5.heap) σ6 H8 s8 from I8.pins_of fun p hp=>I8.pin p (Qm _ (Qm _ hp))).turned (it:=a.heap.objs.size) (t':=s8.toks) (fun b o f e=>sb9.extBut b o f e) F.2.1 F.2.2.1 (.inr (Qe _))
     (fun x c e z=>by
      obtain⟨vc,oc,hoc,hd⟩:=I8.cell x c e;rw[z,F.1]at hoc;cases hoc;cases hd)
     fun p hp z=>by
      obtain⟨q1,q2⟩:=ZaF (show p∈YG fp s5.heap by simpa[Z4]using hp);obtain⟨ob,eb,_⟩:=T.obj _ _ t p.1 q1;exact QU _ (by have:=Qh eb;rw[z]at this;exact this)
    have hk9:∀b∈fp,∀o,s8.heap.get? b=some o->h9.get? b=some o:=fun b f o e=>sb9.extBut b o (fun z=>by
     obtain⟨ob,eb,_⟩:=T.obj _ _ t b f;exact QU _ (by have:=Qh eb;rw[z]at this;exact this)) e
    refine⟨m',hm,i+1,P++[v8],l++[y],k9,σ6,H8,I9.pins_of fun p hp=>?_,rv.append (.cons r8 .nil),T.keep _ _ _ (K I8).1 hk9,(K I8).2,w8⟩;have e:p=(a.heap.objs.size,{cls:= .type "list",data:= .seq (List.toArray (l++[y])) k9}):=by simpa using hp
    subst e;exact⟨(show h9.get? a.heap.objs.size=some {cls:= .type "list",data:= .seq (List.toArray (l++[y])) k9} by rw[e9];simp),F.2.1,F.2.2.1,F.2.2.2.1,fun v z=>nomatch z⟩
 exact codeAny_compStart_list (loop _ rfl) (T.self _ 0 _ _ _ (T.keep _ _ _ t fun b _ o e=>old b o e) (loop _ rfl))
theorem Zkf{X}{scope}{cl}{N}{bs}{tg a elt}{ifs}{p pos' pos spos px}{x}{ta}{g gt}{tt}{te}(B:Blk X scope cl N bs)(hc:X.calm=true)
  (hgl:Gl X "range")(hmr:X.mg "range"=none)(ha:PA X [a] ta)(hm:JR ta)(hpl:ZV a=true)(hg:∀C fp s H,PG (Z4 X scope cl C N fp s H) tg g) (ht:∀C fp s H,PTs (Z4 X scope cl C N fp s H) ifs tt) (he:∀C fp s H,PE (Z4 X scope cl C N fp s H) elt te)
  (hgt:PG X (.Name x px) gt) (hsw:swapsWith (.ListComp elt [⟨tg,.Call (.Name "range" p) [a] [] pos',ifs,0⟩] scope pos) (some (.Name x px)) spos.line X.env=pure true)
  (hs:∀x,foldedSetIterable (.Call (.Name "range" p) [a] [] pos') X.env x=pure x:=by intro _;rfl):PS X (.Assign [.Name x px] (.ListComp elt [⟨tg,.Call (.Name "range" p) [a] [] pos',ifs,0⟩] scope pos) spos) (Zg8 (ZjF bs ta g tt te) gt):=by
 refine fun b s σ H D I h=>@Zjv X scope cl N bs tg _ elt ifs pos spos px x (Zhv ta) g gt tt te B hc (@ZZ X tg a ta p pos' hgl hmr ha (ZY hpl)) hg ht he hgt hsw hs b s σ H D I (hm σ H _ _ (fun _ d h=>?_) h);obtain⟨n,e,j,q,i,k,m,o⟩:=h;exact⟨n,e,by simp,by omega,ZbG (Q:=fun x d=>gt x σ d D.nx) q (Yh j) i k m fun l σ H f p c=>o l σ H f p _ (Z0 c) Zd⟩
section
variable{X:Cx}
theorem Zha:OpR X (binaryOp .FloorDiv) (rI (fun _ j=>0<j/\j<4611686018427387904) fun i j=> .int (i/j)):=opI fun i j _ _ _ _ _ _ q=>floordiv_int (by omega) (by grind) (.inl (PyProof.noPylong_of_log2 (Nat.lt_trans ((Nat.log2_lt (show j.natAbs≠0 by omega)).mpr (show j.natAbs<2^62 by omega)) (by decide))))
end
end L2
namespace PySem
open Sem (wp)
open PyProof.Rows
section
variable{prog:Program}{w:World}{A:Around}{E:Value->Shared->Prop}{s:Shared}
theorem ZiK:typeLookup (.type "list_reverseiterator") "__len__"=pure none:=by kernel_rfl
theorem Zhi:typeLookup (.type "list_reverseiterator") "__length_hint__"=pure (some (.builtin "list_reverseiterator.__length_hint__")):=by kernel_rfl
theorem Zhw{it l}{i}{Q}(hit:s.heap.IsRevIter it l i)(h:Q false s):wpAny (model prog w) A (Builtin.List.listLengthHint (.ref it)) Q E s:=by
 have e:=Heap.IsRevIter.typeIs hit;refine Qa (wpAny_specialOf e ZiK (Qa (wpAny_specialOf e Zhi ?_)));generalize d:("list_reverseiterator.__length_hint__")=id0
 wp_delta
 subst d;exact Qa (wpAny_isInstance (b:=true) e (by kernel_rfl) (wpAny_ite_split (fun a=>absurd a (by decide)) (fun _=>wpAny_ite_split (fun _=>(wpAny_ite_split (fun a=>absurd a (by decide+kernel)) (fun _=>Qg h))) (fun a=>absurd (by decide+kernel) a))))
theorem ZeB{R:Result->Shared->Prop}{it l}{items}(hh:A.handled=none)(hne:l≠it)(hit:s.heap.IsRevIter it l ((items.size:Int)-1))(hl:s.heap.IsList l items)(hlen:items.size<=sizeLine)
  (S)(hSl:S≠l)(res:Value)(c₀:Nat)(hS:s.heap.get? S=some {cls:= .type "list",data:= .seq #[] c₀})
  (hR:∀h' tk acc' c',(∀b o,b≠S->b≠it->s.heap.get? b=some o->h'.get? b=some o)->h'.get? S=some {cls:= .type "list",dict:=none,data:= .seq acc' c',slots:=#[]}->
   ItemsOf (fun i v=>items[items.size-1-i]?=some v) acc' items.size->R (.ok (.ret res)) {s with heap:=h',toks:=tk}):
  wpAny (model prog w) A.in1 (Builtin.List.listExtendWith (.ref S) (.ref it) res)
   (fun fin s'=>match fin with| .done f=>R (.ok f) s'| .again c'=>c'.quiet=true/\codeAny (model prog w) A c' R s') (fun e s'=>R (.error e) s') s:=by
 have h:S≠it:=fun e=>by
  obtain⟨o,_,_,_⟩:=hit
  grind
 have k:S ∉ [it,l]:=fun g=>by
  simp_all
 refine Qa (wpAny_typeOf (T:="list_reverseiterator") (Heap.IsRevIter.typeIs hit) ?_);simp[(show Builtin.List.listSameRef (.ref S) (.ref it)=false by simp[Builtin.List.listSameRef,h]),(show(Value.type "list_reverseiterator"==Value.type "list")=false by decide),(show(Value.type "list_reverseiterator"==Value.type "tuple")=false by decide),Bool.or_false,UV,if_false];refine Qa (wpAny_pyIter_revIter hit (Qa (Q5 (Zhw hit (wpAny_ite_split (fun d=>absurd d (by decide)) (fun _=>Qg ⟨UD F.plain_extend_loop _,codeAny_extend_loopS ((Walks.listRev (prog:=prog) (w:=w) (A:=A.in1) hh it l hne items).toS) hlen S k res items.size 0 _ #[] c₀ rfl (QE _) ⟨QE _,by simpa using hit,hl⟩ hS (ItemsOf.nil _) fun s' acc' c' g j c=>?_⟩))))));rw[Moved.eq_with g];refine hR s'.heap s'.toks acc' c' (fun b o _ _ e=>g.heap b o (fun _=>?_) e) j c
 simp_all
theorem Zce{R:Result->Shared->Prop}{it l}{items}(hh:A.handled=none)(hne:l≠it)(hit:s.heap.IsRevIter it l ((items.size:Int)-1))(hl:s.heap.IsList l items)(hlen:items.size<=sizeLine)
  (S)(hSl:S≠l)(hSr:S≠it)(hS:s.heap.get? S=some {cls:= .type "list",data:= .seq #[]})
  (hR:∀h' tk acc' c',(∀b o,b≠S->b≠it->s.heap.get? b=some o->h'.get? b=some o)->h'.get? S=some {cls:= .type "list",dict:=none,data:= .seq acc' c',slots:=#[]}->
   ItemsOf (fun i v=>items[items.size-1-i]?=some v) acc' items.size->R (.ok (.ret .none)) {s with heap:=h',toks:=tk}):
  wpAny (model prog w) A.in1 (Builtin.«list.__init__» ⟨[.ref S,.ref it],[]⟩)
   (fun fin s'=>match fin with| .done f=>R (.ok f) s'| .again c'=>c'.quiet=true/\codeAny (model prog w) A c' R s') (fun e s'=>R (.error e) s') s:=by
 refine Qa (Qa (Q9 hS rfl (Qg (Qa (wpAny_updateSeq hS rfl ?_)))));have a:∀b o,b≠S->s.heap.get? b=some o->(s.heap.update S (Obj.mapSeq (fun _=>(#[]:Array Value)))).get? b=some o:=
  fun b o d e=>(QV _ _ (Ne.symm d)).trans e
 refine Qa (wpAny_letGo (ZeB hh hne (hit.at fun o e=>a it o (Ne.symm hSr) e) (hl.at fun o e=>a l o (Ne.symm hSl) e) hlen S hSl .none _ (Uh (Obj.mapSeq (fun _=>(#[]:Array Value))) hS rfl) fun h' tk acc' c' j g c=>?_));exact hR h' tk acc' c' (fun b o d h e=>j b o d h (a b o d e)) g c
theorem Zck{Q}{it l}{items}(hh:A.handled=none)(hne:l≠it)(hit:s.heap.IsRevIter it l ((items.size:Int)-1))(hl:s.heap.IsList l items)(hlen:items.size<=sizeLine)
  (hQ:∀h' tk acc' c',(∀b o,b≠it->s.heap.get? b=some o->h'.get? b=some o)->
   h'.get? s.heap.objs.size=some {cls:= .type "list",dict:=none,data:= .seq acc' c',slots:=#[]}->ItemsOf (fun i v=>items[items.size-1-i]?=some v) acc' items.size->Q (.ref s.heap.objs.size) {s with heap:=h',toks:=tk}):
  wpAny (model prog w) A (call (.type "list") [.ref it]) Q E s:=by
 refine callType_codes (Q₁:=fun a g=>a= .ref s.heap.objs.size/\g={s with heap:=s.heap.push {cls:= .type "list",data:= .seq #[]}}) F.called_list (F.typeCall_list_1 _) F.entry_list_init
  (code_list_new _ ⟨rfl,rfl⟩) fun a g m=>?_
 obtain⟨rfl,rfl⟩:=m;have h:(s.heap.push _).get? _=some {cls:= .type "list",data:= .seq #[]}:=Ql _ rfl;refine⟨⟨_,h,rfl⟩,F.args_list_init_2 _ _,Zce (A:=A.in1) hh hne (hit.at fun o e=>Qc _ e) (hl.push _) hlen s.heap.objs.size (Uo (show l<s.heap.objs.size by obtain⟨o,d,_⟩:=hl;exact Qh d)) (Uo (show it<s.heap.objs.size by obtain⟨o,d,_⟩:=hit;exact Qh d)) h fun h' tk acc' c' j f c=>?_⟩;exact⟨rfl,hQ h' tk acc' c' (fun b o k e=>j b o (Qo (Qh e)) k (Qc _ e)) f c⟩
end
end PySem
namespace L2
open PySem PySem.Spec PyProof.Rows
theorem boot_list:bootBuiltins "list"=some (.type "list"):=by decide+kernel
theorem ZhS:bootBuiltins "reversed"=some (.type "reversed"):=by decide+kernel
def Znh(K:PySem.W.Frag)(ta:TE):TE:=fun σ H Q=>ta σ H fun x H1=>∃l xs,x= .ref l/\SqL K H1 l xs/\∀d H',Same H1 H'->H' d=some (.lst xs.reverse)->Q (.ref d) H'
theorem Zev{X}{a}{ta}{p1 p2 pos1 pos2}(hc:X.calm=true)(ha:PE X a ta)(hg:Gl X "list":=by rfl)(hm:X.mg "list"=none:=by rfl)(hg2:Gl X "reversed":=by rfl)(hm2:X.mg "reversed"=none:=by rfl)(hpl:ZV a=true:=by rfl):
  PE X (.Call (.Name "list" p1) [.Call (.Name "reversed" p2) [a] [] pos2] [] pos1) (Znh X.K ta):=by
 refine fun n s σ H Q I h=>Up (Jq I hg hm boot_list (callWith_type1 (UU ?_) rfl rfl));refine Up (Jq I hg2 hm2 ZhS (callWith_type1 (thn ((Zc ha Za hpl) pos2 n s σ H (Zhb fun x w=>∃l p,x= .ref l/\SqL X.K w l p/\∀d z,Same w z->z d=some (.lst p.reverse)->Q (.ref d) z) I h) fun us s1 xq1=>?_) (ZY hpl) rfl));obtain⟨m,w,r,r1,t⟩:=xq1;obtain⟨x1,rfl,t⟩:=Zd8 t;obtain⟨u1,rfl,ru⟩:=vals1 r1;obtain⟨l,p,rfl,hp,q⟩:=t;cases ru;obtain⟨m,rv,pl,hz⟩:=r.list hp;have v:=pl.isList;have g:=rv.length;refine call_reversed_list v (Calls.spliced_nil (Zck (items:=m.toArray) (r.ok.hd hc) (Qo (show l<s1.heap.objs.size by obtain⟨_,e,_⟩:=v;exact Qh e)) ⟨_,Ql _ rfl,rfl,rfl⟩ (v.push _) (by grind) fun h' tk f c' kp e2 it=>?_));obtain⟨i1,i2⟩:=it;have hv:=ZaU (by rw[List.length_reverse,UR];exact g.trans i1.symm) fun i x u y e4=>by
  have hi:i<p.length:=by
   have:=(Qd.mp y).1
   rwa [List.length_reverse]at this
  rw[List.getElem?_reverse hi]at y;obtain⟨u',g1,g2⟩:=rv.get y;rw[g,(show m[m.length-1-i]?=some u by simpa using(i2 i u (show f[i]?=some u by simpa using e4)))]at g1;cases g1;exact g2
 refine⟨.ref _,_,r.laid (t':=tk) (o:= .lst p.reverse) (a:=(s1.heap.push (revObj l (m.toArray.size-1))).objs.size) (fun b o e=>kp b o (Qo (Qh e)) (Qc _ e)) (by simp_all) ?_,rfl,q _ _ (Z0 (r.hok.fresh (by simp_all))) Zd⟩;exact⟨by simp_all,f.toList,c',hv,by rw[e2]⟩
end L2
namespace SetI
open PySem PySem.Spec PyProof.Rows
section
variable{prog:Program}{w:World}{A:Around}{E:Value->Shared->Prop}{s:Shared}
theorem call_set_tupI{l:Addr}{items:Array _}{ns:List _}{Q:Value->Shared->Prop}
  (hh:A.handled=none)(hl:s.heap.IsTuple l items)(hi:PyProof.Rows.IntsAre items.toList ns)(hb:items.size+1<scanBound)
  (h:∀(h':Heap)(tk:Nat),h'.SetOf (intKind prog w) s.heap.objs.size (fun k'=>(PyProof.Rows.firstMet (fun i=>ns.getD i 0) items.size).any (·==k')) (PyProof.Rows.firstMet (fun i=>ns.getD i 0) items.size).length->
   (∀b o,b<s.heap.objs.size->s.heap.get? b=some o->h'.get? b=some o)->Q (.ref s.heap.objs.size) {s with heap:=h',toks:=tk}):
  wpAny (model prog w) A (call (.type "set") [.ref l]) Q E s:=by
 obtain⟨c,tl,hmro⟩:=F.called_set.mro;have hmade:=F.called_set.made;have hsub:=F.called_set.sub;refine Va (codeAny_of_tree (Qg ⟨Code.quiet_builtin _ (by decide+kernel),Ua F.entry_type_call ?_⟩));rw[Around.under_plain (weight_type_call_type "set" [.ref l] []) rfl];have h1:=F.called_set.notType;have h2:=F.called_set.canCreate;have hct:=F.typeCall_set_1 (.ref l)
 repeat (any_goals (first|assumption|wp_step))
 refine UE (code_set_new_1 (.ref l) (E:=E) (Q₁:=fun obj s₁=>∃led:Bool,obj= .ref s.heap.objs.size/\s₁={s with heap:=s.heap.push {cls:= .type "set",dict:=none,data:= .set #[] 0 (.fresh 0 0 led)}}) fun led=>⟨led,rfl,rfl⟩) fun r s₁ hr=>?_;cases r with
 |error e=>exact hr
 |ok fl=>
  cases fl with
  |ret obj=>
   obtain⟨led,rfl,rfl⟩:=hr;have hS:(s.heap.push {cls:= .type "set",dict:=none,data:= .set #[] 0 (.fresh 0 0 led)}).get? s.heap.objs.size=some {cls:= .type "set",dict:=none,data:= .set #[] 0 (.fresh 0 0 led)}:=Ql _ rfl;have hT:Shared.TypeIs {s with heap:=s.heap.push {cls:= .type "set",dict:=none,data:= .set #[] 0 (.fresh 0 0 led)}} (.ref s.heap.objs.size) "set":=⟨_,hS,rfl⟩;have hli:=F.called_set.init.lookup;have hbi:=F.called_set.init.bind (.ref s.heap.objs.size)
   repeat (any_goals (first|assumption|wp_step))
   refine UE (codeAny_call_builtin (R:=wants (fun r s₂=>r= .none/\∃h' tk,s₂={s with heap:=h',toks:=tk}/\
     h'.SetOf (intKind prog w) s.heap.objs.size (fun k'=>(PyProof.Rows.firstMet (fun i=>ns.getD i 0) items.size).any (·==k')) (PyProof.Rows.firstMet (fun i=>ns.getD i 0) items.size).length/\
     (∀b o,b<s.heap.objs.size->s.heap.get? b=some o->h'.get? b=some o)) E) F.called_set.init.plain F.entry_set_init (check_set_init_1 hT ?_)) fun r₂ s₂ hr₂=>?_
   ·obtain⟨ol,hol,hcl,nl,hdl⟩:=hl
    obtain⟨ocls,odict,odata,oslots⟩:=ol;simp only at hcl hdl;subst hcl;subst hdl;have hol':(s.heap.push {cls:= .type "set",dict:=none,data:= .set #[] 0 (.fresh 0 0 led)}).get? l=some {cls:= .type "tuple",dict:=odict,data:= .seq items nl,slots:=oslots}:=Qc _ hol;have hsls:=F.sub_tuple_set;have hslf:=F.sub_tuple_frozenset;have hne:(Value.type "tuple"==Value.type "dict")=false:=by decide
    have hl1:(s.heap.push {cls:= .type "set",dict:=none,data:= .set #[] 0 (.fresh 0 0 led)}).IsTuple l items:=⟨_,hol',rfl,nl,rfl⟩;unfold Builtin.«set.__init__» noKeywords Builtin.Frozenset.updateFrom;generalize hPI:pyIter=PI
    wp_walk
    subst hPI;refine UB hl1 (Qa (wpAny_runValue ?_));have hlS:l<s.heap.objs.size:=Qh hol;have hh3:A.in1.in1.in1.handled=none:=by simp[hh]
    have hneI:l≠(s.heap.push {cls:= .type "set",dict:=none,data:= .set #[] 0 (.fresh 0 0 led)}).objs.size:=by
     rw[QR];exact Qo (Uk hlS)
    have hSf:s.heap.objs.size ∉ [(s.heap.push {cls:= .type "set",dict:=none,data:= .set #[] 0 (.fresh 0 0 led)}).objs.size,l]:=by
     rw[QR];simp only[Qn,Qf,Qt,Q3,not_or];exact⟨Qo (Q7 _),Uo hlS⟩
    have hval:∀(i:Nat)(v:Value),items[i]?=some v->∃t,v= .int ((fun i=>ns.getD i 0) i) t:=fun i v hv=>
     PyProof.Rows.IntsAre.int_at hi i v (by rw[UI];exact hv)
    refine PyProof.Rows.codeAny_set_update_loopS ((Walks.tuple hh3 _ l hneI items).toS) s.heap.objs.size
     hSf (fun i=>ns.getD i 0) hval hb (items.size-0) 0 _ (by omega) (QE _)
     ⟨⟨_,Ql _ rfl,rfl,rfl⟩,(hl1.at fun o e=>Qc _ e)⟩ ?hS0 ?hR
    case hS0=>
     have hget:((s.heap.push {cls:= .type "set",dict:=none,data:= .set #[] 0 (.fresh 0 0 led)}).push {cls:= .type "tuple_iterator",data:= .fields #[.ref l,.int 0 0]}).get? s.heap.objs.size
       =some {cls:= .type "set",dict:=none,data:= .set #[] 0 (.fresh 0 0 led)}:=Qc _ hS
     exact PyProof.Rows.SetOf_congr ((PyProof.Rows.setObjOf_fresh (knd:=intKind prog w) led).setOf hget (by unfold scanBound;simp)) (fun _=>rfl) rfl
    case hR=>
     intro s' hm hS';obtain⟨h',g',d',tk',os'⟩:=s';have eg:g'=s.gens:=hm.gens;have ed:d'=s.drawn:=hm.drawn;have eo:os'=s.os:=hm.os;subst eg;subst ed;subst eo;refine Qg (Qg ⟨rfl,h',tk',rfl,hS',fun b o hb e=>?_⟩);have hb1:b≠s.heap.objs.size:=Qo hb;have hb2:b≠(s.heap.push {cls:= .type "set",dict:=none,data:= .set #[] 0 (.fresh 0 0 led)}).objs.size:=by
      rw[QR];exact Qo (Uk hb)
     exact hm.heap b o (by simp only[Qn,Qf,Qt,Q3,not_or];exact⟨hb1,hb2⟩) (Qc _ (Qc _ e))
   ·cases r₂ with
    |error e=>exact hr₂
    |ok fl₂=>
     cases fl₂ with
     |ret r=>
      obtain⟨rfl,h',tk,rfl,hS',hk'⟩:=hr₂
      repeat (any_goals (first|assumption|wp_step))
      exact h _ _ hS' hk'
     |_=>exact hr₂.elim
  |_=>exact hr.elim
end
end SetI
namespace L2
open PySem PySem.Spec PyProof.Rows
theorem Zci:∀(ns:List _),ns.Nodup->(firstMet (fun i=>ns.getD i 0) ns.length).length=ns.length:=by
 intro ns d;have _:∀i,i<=ns.length->firstMet (fun i=>ns.getD i 0) i=ns.take i:=by
  intro i
  induction i with
  |zero=>intro _;rfl
  |_ i c=>
   intro _;rw[firstMet_succ,c (by omega)];unfold step_dedup;rw[(show ns.getD i 0=ns[i] by grind)];have _:¬((ns.take i).any (·==ns[i])=true):=by
    intro h;rw[UK]at h;obtain⟨x,f,e⟩:=h;obtain⟨j,b,a⟩:=QW f;rw[UC]at b;rw[List.getElem_take]at a;have:=(List.getElem_inj d).mp (a.trans (show x=ns[i] by simpa using e));omega
   simp_all
 simp_all
section
variable{X:Cx}
theorem Zfr:∀{us},Vals (ns.map V.int) us->IntsAre us ns:=by
 induction ns with
 |nil=>intro us r;cases r;exact .nil
 |cons k _ c=>
  intro us r;cases r with
  |cons h t=>
   obtain⟨_,rfl⟩:=h;exact .cons _ _ (c t)
inductive ZlB(K:PySem.W.Frag)(xs:List V)(H:Hp)(Q:VK):Prop
 |mk (p:_) (ns:List Int) (_:xs=[.ref p]) (_:SqT K H p (ns.map V.int)) (_:ns.length<=1000) (_:∀q S H',Same H H'->H' q=some (.set S (firstMet (fun i=>ns.getD i 0) ns.length).length)->Q (.ref q) H')
theorem Zgq(hr:Room k X.A):CallR X (.type "set") (ZlB X.K):=by
 intro _ s σ H _ _ Q I r h;obtain⟨p,a,rfl,v,_,q⟩:=h;obtain⟨u,rfl,n⟩:=vals1 r;cases n;obtain⟨f,j,m,_⟩:=I.tuple v;have c:=j.length;rw[Qq]at c;refine SetI.call_set_tupI hr.hd m (by simpa using Zfr j) (by rw[QA,<-c];unfold scanBound;omega) fun _ _ g t=>?_;rw[(show f.toArray.size=a.length by simp_all)]at g;exact⟨.ref s.heap.objs.size,_,I.laid (o:= .set (fun l=>(firstMet (fun i=>a.getD i 0) a.length).any (·==l)) (firstMet (fun i=>a.getD i 0) a.length).length) (fun b o e=>t b o (Qh e) e) (Qe _) g,rfl,q _ (fun l=>(firstMet (fun i=>a.getD i 0) _).any _) _ (Z0 (I.hok.fresh (Qe _))) Zd⟩
inductive rLenI(xs:List V)(H:Hp)(Q:VK):Prop
 |mk (q S n:_) (_:xs=[.ref q]) (_:H q=some (.set S n)) (_:n<=100000) (_:Q (.int n) H)
theorem Zgu:CallR X (.builtin "len") rLenI:=by
 intro _ s σ H _ _ Q I r h;obtain⟨p,S,n,rfl,b,_,q⟩:=h;obtain⟨u,rfl,g⟩:=vals1 r;cases g;obtain⟨o,_,_,t,d,a,f,_,_,_,c,e⟩:s.heap.SetOf _ p S n:=(I.hok p _ b);refine call_len_set d a f c (by omega) ⟨.int n,H,I.tok _,⟨_,by rw[e]⟩,q⟩
end
end L2
namespace L2
open PySem PySem.Spec PyProof.Rows PySem.SeqAt
def Atom:V->Prop
 | .non=>True
 | .bl _=>True
 | .int _=>True
 | .str _=>True
 |_=>False
def Sam(K:PySem.W.Frag)(H:Hp):Nat->V->V->Prop
 |0,x,y=>x=y/\Atom x
 |d+1,x,y=>(x=y/\Atom x)\/∃a b xs ys,x= .ref a/\y= .ref b/\((SqT K H a xs/\SqT K H b ys)\/(SqL K H a xs/\SqL K H b ys))/\xs.length=ys.length/\∀(i:Nat) u v,xs[i]?=some u->ys[i]?=some v->Sam K H d u v
section
variable{X:Cx}
theorem Zf8{A}{s}{x}{u v:Value}(h:Atom x)(ru:RelV x u)(rv:RelV x v):EqAt A s u v true:=by
 cases x with
 |non=>cases ru;cases rv;exact EqAt.same _
 |bl b=>cases ru;cases rv;exact EqAt.same _
 |int i=>
  obtain⟨t,rfl⟩:=ru;obtain⟨a,rfl⟩:=rv;have e:=EqAt.int_int (A:=A) (s:=s) i t i a
  simp_all
 |str i=>
  obtain⟨t,rfl⟩:=ru;obtain⟨a,rfl⟩:=rv;have e:=(eqGives_str i i t a).at A s
  simp_all
 |_=>exact h.elim
theorem all_true(n):(List.range n).all (fun _=>true)=true:=by simp
theorem ZcN{pins}{σ:St}{H}{s}(I:Inv X pins σ H s):∀(d)(A)(x y)(u v),A.units+d<cLine->Sam X.K H d x y->RelV x u->RelV y v->EqAt A s u v true
 |0,A,x,y,u,v,J,h,m,n=>by
  obtain⟨rfl,h⟩:=h;exact Zf8 h m n
 |d+1,A,x,y,u,v,J,h,m,n=>by
  rcases h with⟨rfl,h⟩|⟨a,b,_,_,rfl,rfl,h,_,E⟩
  ·exact Zf8 h m n
  cases m
  cases n
  by_cases g:a=b
  ·subst g
   exact EqAt.same _
  refine EqAt.of_refs g ?_;rcases h with⟨C,z⟩|⟨C,z⟩
  ·obtain⟨w,f,r,_⟩:=I.tuple C
   obtain⟨p,c,B,_⟩:=I.tuple z;have M:=f.length;have F:=c.length;have e:=RcAt.tuples (A:=A) (e:=fun _=>true) r B (by omega) (fun j t D=>?_)
   ·grind
   ·simp[QA]at t D
    obtain⟨l,L,q⟩:=f.get (Qb (i:=j) (by omega));obtain⟨k,G,o⟩:=c.get (Qb (i:=j) (by omega));simp[U2,(show w[j]=l by simp_all),(show p[j]=k by grind)];exact(ZcN I d _ _ _ l k (by show A.units+1+d<cLine;omega) (E j _ _ (Qb (by omega)) (Qb (by omega))) q o)
  ·obtain⟨w,f,r,_⟩:=I.list C
   obtain⟨p,c,B,_⟩:=I.list z;have M:=f.length;have F:=c.length;have e:=RcAt.lists (A:=A) (e:=fun _=>true) r.isList B.isList (by simp;omega) (by omega) (fun j t D=>?_)
   ·rw[all_true]at e
    exact e
   ·simp[QA]at t D
    obtain⟨l,L,q⟩:=f.get (Qb (i:=j) (by omega));obtain⟨k,G,o⟩:=c.get (Qb (i:=j) (by omega));simp[U2,(show w[j]=l by simp_all),(show p[j]=k by grind)];exact(ZcN I d A.in1 _ _ l k (by show A.units+1+d<cLine;omega) (E j _ _ (Qb (by omega)) (Qb (by omega))) q o)
inductive ZlD(K:PySem.W.Frag)(b:Bool)(x:V)(y:V)(H:Hp)(Q:VK):Prop
 |mk (p q xs ys:_) (_:x= .ref p) (_:y= .ref q) (_:((SqT K H p xs/\SqT K H q ys)\/(SqL K H p xs/\SqL K H q ys))) (_:xs.length=ys.length) (_:(∀(i:Nat) u v,xs[i]?=some u->ys[i]?=some v->Sam K H 6 u v)) (_:Q (.bl b) H)
theorem JG{σ:St}{H}{s}(I:Inv X pins σ H s){A:Around}(hu:A.units+7<cLine){xs ys:List V}{vs ws:List _}(rvs:Vals xs vs)(rws:Vals ys ws)(hl:xs.length=ys.length)
  (hk:∀(i:Nat) u v,xs[i]?=some u->ys[i]?=some v->Sam X.K H 6 u v) (j:Nat) (h1:j<vs.toArray.size) (h2:j<ws.toArray.size):EqAt A.in1 s vs.toArray[j] ws.toArray[j] true:=by
 have _:=rws.length;simp[QA]at h1 h2;obtain⟨a,_,c⟩:=rvs.get (Qb (i:=j) (by omega));obtain⟨b,_,d⟩:=rws.get (Qb (i:=j) (by omega));simp[U2,(show vs[j]=a by simp_all),(show ws[j]=b by simp_all)];exact(ZcN I 6 _ _ _ a b (by omega) (hk j _ _ (Qb (by omega)) (Qb (by omega))) c d)
theorem Zko(hr:Room k X.A):OpR X (compareOp .NotEq) (ZlD X.K false):=by
 intro _ s σ H x y v u Q I r n h;obtain⟨p,q,_,_,rfl,rfl,h,m,l,i⟩:=h;cases r;cases n;have _:=hr.un;rcases h with⟨d,f⟩|⟨d,f⟩
 ·obtain⟨g,a,e,_⟩:=I.tuple d
  obtain⟨j,b,c,_⟩:=I.tuple f;have t:=a.length;have w:=b.length;refine RcNeAt.tuples e c (by omega) (JG I (by omega) a b m l) _ _ _ _ ?_;rw[all_true,(show(g.toArray.size==j.toArray.size)=true by simp;omega)];exact⟨.bl _,H,I,rfl,i⟩
 ·obtain⟨g,a,e,_⟩:=I.list d
  obtain⟨j,b,c,_⟩:=I.list f;have t:=a.length;have w:=b.length;refine RcNeAt.lists e.isList c.isList (by simp;omega) (by omega) (JG I (by omega) a b m l) _ _ _ _ ?_;rw[all_true];exact⟨.bl _,H,I,rfl,i⟩
theorem Zkr(hr:Room k X.A):OpR X (compareOp .Eq) (ZlD X.K true):=by
 intro _ s σ H x y v u Q I r o h;obtain⟨p,q,_,_,rfl,rfl,h,l,j,m⟩:=h;cases r;cases o;have _:=hr.un;rcases h with⟨d,f⟩|⟨d,f⟩
 ·obtain⟨g,a,e,_⟩:=I.tuple d
  obtain⟨i,b,c,_⟩:=I.tuple f;have t:=a.length;have w:=b.length;refine RcAt.tuples e c (by omega) (JG I (by omega) a b l j) _ _ _ _ ?_;rw[all_true,(show(g.toArray.size==i.toArray.size)=true by simp;omega)];exact⟨.bl _,H,I,rfl,m⟩
 ·obtain⟨g,a,e,_⟩:=I.list d
  obtain⟨i,b,c,_⟩:=I.list f;have t:=a.length;have w:=b.length;refine RcAt.lists e.isList c.isList (by simp;omega) (by omega) (JG I (by omega) a b l j) _ _ _ _ ?_;rw[all_true];exact⟨.bl _,H,I,rfl,m⟩
end
end L2
namespace L2
open PySem PySem.Spec PyProof.Rows
section
variable{κ:Type}[DecidableEq κ]
def ZD(kvs:List (κ×V))(k:κ):Option V:=(kvs.find? fun kv=>decide (kv.1=k)).map (·.2)
def putK(kvs:List (κ×V))(k:κ)(v:V):List (κ×V):=
 if(kvs.any fun kv=>decide (kv.1=k))=true then kvs.map (fun kv=>if kv.1=k then(kv.1,v)else kv)else kvs++[(k,v)]
theorem ZW{p}{r}{k:κ}(e:p.1=k):ZD (p::r) k=some p.2:=by simp[ZD,Vc,e]
theorem ZX{p}{r}{k:κ}(e:¬p.1=k):ZD (p::r) k=ZD r k:=by simp[ZD,Vc,e]
theorem YD(k):∀kvs:List (κ×V),(kvs.any fun kv=>decide (kv.1=k))=(ZD kvs k).isSome
 |[]=>rfl
 |p::r=>by
  rw[List.any_cons];by_cases e:p.1=k
  ·simp[ZW e,Qu e,Bool.true_or,Option.isSome_some]
  ·rw[ZX e,QX e,Bool.false_or];exact YD k r
theorem Zdo(k j)(y):∀kvs:List (κ×V),ZD (kvs.map fun kv=>if kv.1=k then(kv.1,y)else kv) j=(ZD kvs j).map fun x=>if j=k then y else x
 |[]=>rfl
 |p::r=>by
  have a:=Zdo k j y r;rw[Vd];by_cases h:p.1=k
  ·rw[if_pos h]
   by_cases e:p.1=j
   ·rw[ZW (p:=(p.1,y)) e,ZW e,Option.map_some,if_pos (e.symm.trans h)]
   ·rw[ZX (p:=(p.1,y)) e,ZX e,a]
  ·rw[if_neg h]
   by_cases e:p.1=j
   ·rw[ZW e,ZW e,Option.map_some,if_neg (fun z=>h (e.trans z))]
   ·rw[ZX e,ZX e,a]
theorem Zcn(k j)(y):∀kvs:List (κ×V),ZD kvs k=none->ZD (kvs++[(k,y)]) j=if j=k then some y else ZD kvs j
 |[],_=>by
  by_cases e:k=j
  ·rw[if_pos e.symm];exact ZW e
  ·rw[if_neg (fun z=>e z.symm)];exact ZX e
 |p::r,a=>by
  rw[List.cons_append];have b:¬p.1=k:=fun z=>by rw[ZW z]at a;cases a
  rw[ZX b]at a;by_cases e:p.1=j
  ·rw[ZW e,ZW e,if_neg (fun z=>b (e.trans z))]
  ·rw[ZX e,ZX e,(Zcn k j y r a)]
theorem Yp(kvs)(k j:κ)(y):ZD (putK kvs k y) j=if j=k then some y else ZD kvs j:=by
 unfold putK;by_cases a:(kvs.any fun b=>decide (b.1=k))=true
 ·rw[if_pos a,Zdo]
  rw[YD]at a;by_cases e:j=k
  ·obtain⟨x,_⟩:=Q6.mp a
   simp_all
  ·simp_all
 ·rw[if_neg a]
  refine Zcn k j y _ ?_;rw[YD]at a
  simp_all
theorem ZT(kvs)(k:κ)(v):(putK kvs k v).length<=kvs.length+1:=by
 unfold putK
 (split<;>simp_all)
theorem Zb3{kvs}{k:κ}(v)(h:ZD kvs k=none):putK kvs k v=kvs++[(k,v)]:=by
 unfold putK;rw[YD,h]
 simp_all
theorem RelO.isSome_eq{o}{u}(r:RelO o u):o.isSome=u.isSome:=by
 cases o with
 |none=>cases u with
  |none=>rfl
  |some _=>exact r.elim
 |some _=>cases u with
  |none=>exact r.elim
  |some _=>rfl
theorem RelO.getD{o}{u}{d}{d'}(r:RelO o u)(rd:RelV d d'):RelV (o.getD d) (u.getD d'):=by
 cases o with
 |none=>cases u with
  |none=>exact rd
  |some _=>exact r.elim
 |some _=>cases u with
  |none=>exact r.elim
  |some _=>exact r
theorem KV.val{kvs}{vs}(r:KV kvs vs)(k:κ):RelO (ZD kvs k) (valueAt vs k):=by
 induction r with
 |nil=>exact True.intro
 |@cons p q _ a h t d=>
  obtain⟨c,f⟩:=h;by_cases e:p.1=k
  ·have b:valueAt (q::a) k=some q.2:=by simp[valueAt,Vc,(c.symm.trans e)]
   rw[ZW e,b];exact f
  ·rw[ZX e,(show valueAt _ k=valueAt a k by simp[valueAt,Vc,(show¬q.1=k from fun z=>e (c.trans z))])];exact d
theorem KV.any{kvs}{vs}(r:KV kvs vs)(k:κ):(kvs.any fun kv=>decide (kv.1=k))=vs.any fun kv=>decide (kv.1=k):=by
 induction r with
 |nil=>rfl
 |_ h t _=>simp_all
theorem KV.repl{kvs}{vs}(r:KV kvs vs)(k:κ){y:V}{u:Value}(ry:RelV y u):
  KV (kvs.map fun kv=>if kv.1=k then(kv.1,y)else kv) (vs.map fun kv=>if kv.1=k then(kv.1,u)else kv):=by
 induction r with
 |nil=>exact .nil
 |@cons p q _ _ h t c=>
  refine .cons ?_ c
  grind
theorem KV.put{kvs}{vs}(r:KV kvs vs)(k:κ){y}{u}(ry:RelV y u):KV (putK kvs k y) (stored vs k u):=by
 unfold putK stored;rw[r.any k];by_cases e:(vs.any fun a=>decide (a.1=k))=true
 ·rw[if_pos e,if_pos e];exact r.repl k ry
 ·rw[if_neg e,if_neg e];exact Paired.snoc r ⟨rfl,ry⟩
theorem KV.keys{kvs:List (κ×V)}{vs:List (κ×Value)}(r:KV kvs vs):kvs.map (·.1)=vs.map (·.1):=by
 unfold KV at r
 induction r with
 |nil=>rfl
 |cons h t ih=>rw[Vd,Vd,ih,h.1]
theorem KV.length{kvs}{vs:List (κ×Value)}(r:KV kvs vs):kvs.length=vs.length:=Paired.length r
end
theorem ZbI{P}{w}{k}{u}(r:RelV (kV k) u):(ZQ P w).is k u=true:=by
 cases k with
 |inl i=>obtain⟨t,e⟩:=r;subst e;exact ZdD P w i t
 |_ x=>obtain⟨t,e⟩:=r;subst e;exact ZdC P w x t
theorem Zc1{P}{w}:∀{ks}{us},Vals (ks.map kV) us->ItemsAre (ZQ P w) ks us
 |[],_,r=>by cases r;exact .nil
 |k::ks,_,r=>by
  cases r with
  |cons h t=>exact .cons (ZbI h) (Zc1 t)
abbrev KT(H:Hp):List (List Key×V)->List (List Key×Addr×Value)->Prop:=Paired fun p q=>p.1=q.1/\H q.2.1=some (.tup (p.1.map kV))/\RelV p.2 q.2.2
theorem KT.val{H}{kvs:List (List Key×V)}{xs:List (List Key×Addr×Value)}(r:KT H kvs xs)(k:List _):RelO (ZD kvs k) ((atKey xs k).map (·.2)):=by
 induction r with
 |nil=>exact True.intro
 |@cons p q _ a h t d=>
  obtain⟨c,_,f⟩:=h;by_cases e:p.1=k
  ·have b:atKey (q::a) k=some q.2:=by simp[atKey,Vc,(c.symm.trans e)]
   rw[ZW e,b];exact f
  ·rw[ZX e,(show atKey _ k=atKey a k by simp[atKey,Vc,(show¬q.1=k from fun z=>e (c.trans z))])];exact d
theorem KT.repl{H}{kvs}{xs:List _}(r:KT H kvs xs)(k:List _){y:V}{u:Value}(ry:RelV y u):
  KT H (kvs.map fun kv=>if kv.1=k then(kv.1,y)else kv) (xs.map (putAt k u)):=by
 induction r with
 |nil=>exact .nil
 |@cons p q _ _ h t c=>
  refine .cons ?_ c;obtain⟨_,_,_⟩:=h;unfold putAt;by_cases e:p.1=k
  ·simp_all
  ·simp_all
theorem KT.put{H:Hp}{kvs:List _}{xs:List _}(r:KT H kvs xs)(k:List _){b:Addr}{y:V}{u:Value}(hb:H b=some (.tup (k.map kV)))(ry:RelV y u):
  KT H (putK kvs k y) (storedH xs k b u):=by
 have e:(kvs.any fun c=>decide (c.1=k))=(atKey xs k).isSome:=by
  rw[YD,(r.val k).isSome_eq,Option.isSome_map]
 unfold putK storedH;rw[e];by_cases q:(atKey xs k).isSome=true
 ·rw[if_pos q,if_pos q];exact r.repl k ry
 ·rw[if_neg q,if_neg q];exact Paired.snoc r ⟨rfl,hb,ry⟩
theorem KT.keeps{H H'}{kvs}{xs}(r:KT H kvs xs)(ht:∀b ys,H b=some (.tup ys)->H' b=some (.tup ys)):KT H' kvs xs:=
 Paired.mapP r fun _ _ z=>⟨z.1,ht _ _ z.2.1,z.2.2⟩
section
variable{P:Program}{w:World}{H:Hp}{h:Heap}{a:Addr}
theorem Zjs{u}(ok:HOk P w H h)(e:Rd H a u):ObjOk P w H h a u:=e.ok ok
theorem ZbR{kvs}(ok:HOk P w H h)(e:Rd H a (.dK kvs)):kvs.length<=sizeLine/\(a==sysModules)=false/\∃vs,KV kvs vs/\h.DictOf (ZQ P w) a vs:=
 Zjs ok e
theorem ZhJ{kvs}(ok:HOk P w H h)(e:H a=some (.dK kvs)):kvs.length<=sizeLine/\(a==sysModules)=false/\∃vs,KV kvs vs/\h.DictOf (ZQ P w) a vs:=ZbR ok (.inl e)
theorem ZaL{ks}(ok:HOk P w H h)(e:H a=some (.tup (ks.map kV))):(tupleKind (ZQ P w)).is h ks a:=by
 obtain⟨_,_,r,o,d,c,n,b⟩:=(ok a _ e);exact⟨o,_,n,d,c,b,by simpa using Zc1 r⟩
theorem ZbQ{kvs}(ok:HOk P w H h)(e:Rd H a (.dT kvs)):kvs.length<=sizeLine/\(a==sysModules)=false/\
  ∃xs,KT H kvs xs/\h.DictOfH (tupleKind (ZQ P w)) a xs:=by
 obtain⟨z,y,xs,r,o,s,i,k,n,j,f,d⟩:=(Zjs ok e);refine⟨z,y,xs,r,o,s,i,k,n,j,f,fun x b=>?_,d⟩;have c:∀{l}{m},KT H l m->∀x∈m,(tupleKind (ZQ P w)).is h x.1 x.2.1:=by
  intro l m q
  induction q with
  |nil=>simp_all
  |@cons p q _ _ _ t g=>
   intro x b;rcases Qn.mp b with e|b
   ·subst e
    exact ZaL ok (by simp_all)
   ·exact g x b
 exact c r x b
theorem ZmE{kvs}(ok:HOk P w H h)(e:H a=some (.dT kvs)):kvs.length<=sizeLine/\(a==sysModules)=false/\
  ∃xs,KT H kvs xs/\h.DictOfH (tupleKind (ZQ P w)) a xs:=ZbQ ok (.inl e)
end
def DGet(H:Hp)(a:Addr)(y:V)(r:Option V):Prop:=
 (∃kvs k,Rd H a (.dK kvs)/\y=kV k/\r=ZD kvs k)\/∃kvs k b,Rd H a (.dT kvs)/\y= .ref b/\H b=some (.tup (k.map kV))/\r=ZD kvs k
def DPut(H:Hp)(a:Addr)(y v:V)(H':Hp):Prop:=
 (∃kvs k,H a=some (.dK kvs)/\y=kV k/\kvs.length<sizeLine/\H'=upd H a (.dK (putK kvs k v)))\/
 ∃kvs k b,H a=some (.dT kvs)/\y= .ref b/\H b=some (.tup (k.map kV))/\kvs.length<sizeLine/\H'=upd H a (.dT (putK kvs k v))
theorem DGet.k{H}{a}{kvs}{k}(e:H a=some (.dK kvs)):DGet H a (kV k) (ZD kvs k):= .inl ⟨kvs,k,.inl e,rfl,rfl⟩
theorem DGet.t{H}{a b}{kvs}{k}(e:H a=some (.dT kvs))(eb:H b=some (.tup (k.map kV))):DGet H a (.ref b) (ZD kvs k):= .inr ⟨kvs,k,b,.inl e,rfl,eb,rfl⟩
theorem DPut.k{H}{a}{kvs}{k}{v}(e:H a=some (.dK kvs))(hl:kvs.length<sizeLine):DPut H a (kV k) v (upd H a (.dK (putK kvs k v))):= .inl ⟨kvs,k,e,rfl,hl,rfl⟩
theorem DPut.t{H}{a b}{kvs}{k}{v}(e:H a=some (.dT kvs))(eb:H b=some (.tup (k.map kV)))(hl:kvs.length<sizeLine):
  DPut H a (.ref b) v (upd H a (.dT (putK kvs k v))):= .inr ⟨kvs,k,b,e,rfl,eb,hl,rfl⟩
section
variable{X:Cx}{pins:List (Addr×Obj)}{σ:St}{H:Hp}{s:Shared}{a:Addr}{y v:V}{u r:Value}{o:Option V}{A:Around}{E:Value->Shared->Prop}
theorem Zgm(hu:A.units+1<cLine)(I:Inv X pins σ H s)(g:DGet H a y (some v))(ry:RelV y u)(h:∀w' s',Inv X pins σ H s'->RelV v w'->Q w' s'):
  wpAny (model X.prog X.w) A (getItem (.ref a) u) Q E s:=by
 rcases g with⟨j,k,e,i,l⟩|⟨j,k,b,e,i,q,l⟩
 ·subst i
  obtain⟨z,r,_,c,f⟩:=ZbR I.hok e;obtain⟨w',m,d⟩:=RelO.some_of (by rw[l];exact c.val k);exact wpAny_getItem_of (ZbI ry) f.mapOf m (h w' _ (I.tok _) d)
 ·subst i
  cases ry
  obtain⟨z,r,_,c,f⟩:=ZbQ I.hok e;obtain⟨w',m,d⟩:=RelO.some_of (by rw[l];exact c.val k);obtain⟨p,o,n⟩:=Option.map_eq_some_iff.mp m;refine wpAny_getItem_heap (tupleKind_room_in1 hu) (ZaL I.hok q) f o ?_;rw[n];exact h w' _ (I.tok _) d
theorem Zoc{Q}(hu:A.units+1<cLine)(I:Inv X pins σ H s)(g:DGet H a y o)(ry:RelV y u)(h:∀s',Inv X pins σ H s'->Q (.bool o.isSome) s'):
  wpAny (model X.prog X.w) A (compareOp .In u (.ref a)) Q E s:=by
 rcases g with⟨f,k,e,i,l⟩|⟨f,k,b,e,i,n,l⟩
 ·subst i
  obtain⟨z,m,_,d,j⟩:=ZbR I.hok e;refine wpAny_in_of (ZbI ry) m j.mapOf ?_;rw[<-(d.val k).isSome_eq,<-l];exact h _ (I.tok _)
 ·subst i
  cases ry
  obtain⟨z,m,_,d,j⟩:=ZbQ I.hok e;refine wpAny_in_heap (tupleKind_room_in1 hu) (ZaL I.hok n) m j ?_;have q:=(d.val k).isSome_eq;rw[Option.isSome_map]at q;rw[<-q,<-l];exact h _ (I.tok _)
theorem Zjb{Q}(hu:A.units+1<cLine)(I:Inv X pins σ H s)(g:DGet H a y o)(ry:RelV y u)(h:∀s',Inv X pins σ H s'->Q (.bool (!o.isSome)) s'):
  wpAny (model X.prog X.w) A (compareOp .NotIn u (.ref a)) Q E s:=by
 rcases g with⟨f,k,e,i,l⟩|⟨f,k,b,e,i,n,l⟩
 ·subst i
  obtain⟨z,m,_,d,j⟩:=ZbR I.hok e;refine wpAny_notIn_of (ZbI ry) m j.mapOf ?_;rw[<-(d.val k).isSome_eq,<-l];exact h _ (I.tok _)
 ·subst i
  cases ry
  obtain⟨z,m,_,d,j⟩:=ZbQ I.hok e;refine wpAny_notIn_heap (tupleKind_room_in1 hu) (ZaL I.hok n) m j ?_;have q:=(d.val k).isSome_eq;rw[Option.isSome_map]at q;rw[<-q,<-l];exact h _ (I.tok _)
theorem Zdj{h'}{t'}{ob}(I:Inv X pins σ H s)(mu:Mut (H a))(hs:Heap.SameBut a s.heap h')(he:∃q,h'.get? a=some q) (new:ObjOk X.prog X.w (upd H a ob) h' a ob):
  Inv X pins σ (upd H a ob) {s with heap:=h',toks:=t'}:=
 I.write mu (.inl rfl) (fun b q c z=>(hs.2 b c).trans z) he new
theorem ZhK{P}{w}{H'}{h'}{kvs}{vs}(z:kvs.length<=sizeLine)(hd:(a==sysModules)=false)(rel:KV kvs vs)(dd:h'.DictOf (ZQ P w) a vs):
  ObjOk P w H' h' a (.dK kvs):=⟨z,hd,vs,rel,dd⟩
theorem Zgl{H'}{Q}(hu:A.units+1<cLine)(I:Inv X pins σ H s)(g:DPut H a y v H')(ry:RelV y u)(rv:RelV v r)(h:∀s',Inv X pins σ H' s'->Q () s'):
  wpAny (model X.prog X.w) A (setItem (.ref a) u r) Q E s:=by
 rcases g with⟨j,k,e,n,l,o⟩|⟨j,k,b,e,n,eb,l,o⟩
 ·subst n o
  obtain⟨z,B,vs,d,p⟩:=ZhJ I.hok e;exact wpAny_setItem_pairs (hsz:=(show vs.length<=sizeLine by rw[<-d.length];exact z)) (ZbI ry) p fun h' f x=>h _ (Zdj I (by rw[e];exact True.intro) x (show∃q,h'.get? a=some q from let⟨q,_,_,m,_⟩:=f;⟨q,m⟩) (ZhK (show(putK _ k v).length<=sizeLine by have:=ZT j k v;omega) B (d.put k rv) f))
 ·subst n o
  cases ry
  obtain⟨z,B,xs,d,p⟩:=ZmE I.hok e;refine wpAny_setItem_heap (hsz:=(show xs.length<=sizeLine by rw[<-Paired.length d];exact z)) (tupleKind_room_in1 hu) (ZaL I.hok eb) p fun h' f x=>h _ ?_;obtain⟨q,es,ep,m,h2,h3,h4,_,h5⟩:=f;refine Zdj I (by rw[e];exact True.intro) x ⟨q,m⟩ ⟨(show(putK _ k v).length<=sizeLine by have:=ZT j k v;omega),B,_,(d.put k eb rv).keeps fun c ys ec=>?_,q,es,ep,m,h2,h3,h4,h5⟩;rw[Zi (ZdB ec e (fun z=>nomatch z))];exact ec
end
def Znb(i:Expr):Prop:=∀ov iv,subscripted i false ov iv=operate [ov,iv] (getItem ov iv)
theorem Zip{env}{value slice}{pos}{T id}{Q}
  (hl:typeLookup (.type T) "__getitem__"=pure (some (.builtin id)))(hs:Znb slice)
  (h:wpAny (model prog w) A (eval value env) (fun o s₁=>wpAny (model prog w) A (eval slice env) (fun i s₂=>s₂.TypeIs o T/\wpAny (model prog w) A (getItem o i) Q E s₂) E s₁) E s):
  wpAny (model prog w) A (eval (.Subscript value slice pos) env) Q E s:=by
 refine Subscript_ (Q2 h (fun o s₁ d=>Q2 d (fun i s₂ a=>?_) fun _ _ x=>x) fun _ _ x=>x);obtain⟨e,a⟩:=a;refine Qa (Qa (wpAny_specialOf e hl ?_));have b:wpAny (model prog w) A (subscripted slice false o i) (fun r c=>wpAny (model prog w) A (letTemporaryGo value o r>>=fun _=>pure r) Q E c) E s₂:=by
  rw[hs o i];exact wpAny_operating (Q2 a (fun r c f=>Qa (wpAny_letTemporaryGo (Qg f))) fun _ _ x=>x)
 first
  |exact Qg (Qa b)
  |grind
  |grind
theorem ZdQ{σ:St}{H}{s}{a}{y}{o}(I:Inv X pins σ H s)(g:DGet H a y o):s.TypeIs (.ref a) "dict":=by
 rcases g with⟨c,k,e,_,_⟩|⟨c,k,b,e,_,_,_⟩
 ·obtain⟨_,_,_,_,d⟩:=ZbR I.hok e
  exact d.typeIs
 ·obtain⟨_,_,_,_,d⟩:=ZbQ I.hok e
  exact d.typeIs
def Zlp(td ty:TE):TE:=fun σ H Q=>td σ H fun x H1=>ty σ H1 fun y H2=>∃a v,x= .ref a/\DGet H2 a y (some v)/\Q v H2
def Zno(ty td:TE):TE:=fun σ H Q=>ty σ H fun y H1=>td σ H1 fun x H2=>∃a o,x= .ref a/\DGet H2 a y o/\Q (.bl o.isSome) H2
def Zio(ty td:TE):TE:=fun σ H Q=>ty σ H fun y H1=>td σ H1 fun x H2=>∃a o,x= .ref a/\DGet H2 a y o/\Q (.bl (!o.isSome)) H2
def Zl5(td ty tv:TE):TS:=fun D σ H=>tv σ H fun v H1=>td σ H1 fun x H2=>ty σ H2 fun y H3=>∃a H4,x= .ref a/\DPut H3 a y v H4/\D.nx σ H4
section
variable{X:Cx}{o i e value:Expr}{pos pos' tpos:Pos}{td ty tv:TE}
theorem Zaq(hu:X.A.units+1<cLine)(ho:PE X o td)(hi:PE X i ty)(hs:Znb i):PE X (.Subscript o i pos) (Zlp td ty):=by
 refine fun b s σ H Q I h=>Zip PySem.F.slot_dict_getitem.lookup hs (thn (ho b s σ H _ I h) fun u l⟨x,n,k,m,p⟩=>thn (hi b l σ n _ k p) fun _ _ xq1=>?_);obtain⟨y,q,d,e,a,v,f,g,r⟩:=xq1;subst f;obtain rfl:u=Value.ref a:=m;exact⟨ZdQ d g,Zgm hu d g e fun _ _ j c=>⟨v,q,j,c,r⟩⟩
theorem Zey(hu:X.A.units+1<cLine)(hi:PE X i ty)(ho:PE X o td):PC X .In i o (Zno ty td):=by
 refine fun b s σ H Q I h=>thn (hi b s σ H _ I h) fun _ p⟨y,n,k,c,e⟩=>thn (ho b p σ n _ k e) fun u _ xq1=>?_;obtain⟨x,l,f,m,a,r,d,g,q⟩:=xq1;subst d;obtain rfl:u=Value.ref a:=m;exact Zoc hu f g c fun _ j=>⟨.bl r.isSome,l,j,rfl,q⟩
theorem ZaD(hu:X.A.units+1<cLine)(hi:PE X i ty)(ho:PE X o td):PC X .NotIn i o (Zio ty td):=by
 refine fun b s σ H Q I h=>thn (hi b s σ H _ I h) fun _ p⟨y,n,k,c,e⟩=>thn (ho b p σ n _ k e) fun u _ xq1=>?_;obtain⟨x,l,f,m,a,r,d,g,q⟩:=xq1;subst d;obtain rfl:u=Value.ref a:=m;exact Zjb hu f g c fun _ j=>⟨.bl (!r.isSome),l,j,rfl,q⟩
theorem Jh(hu:X.A.units+1<cLine)(ho:PE X o td)(hi:PE X i ty)(hv:PE X value tv)(hs:swapsWith value (some (.Subscript o i pos')) pos.line X.env=pure false):
  PS X (.Assign [.Subscript o i pos'] value pos) (Zl5 td ty tv):=by
 refine fun b s σ H D I h=>wpAny_Assign_Subscript (thn (hv b s σ H _ I h) fun r t⟨v,q,n,e,f⟩=>thn (ho b t σ q _ n f) fun u p⟨x,C,k,w,B⟩=>thn (hi b p σ C _ k B) fun _ _ xq1=>?_) hs;obtain⟨y,_,m,c,a,l,d,g,z⟩:=xq1;subst d;obtain rfl:u=Value.ref a:=w;exact Zgl hu m g c e fun _ j=>⟨σ,l,j,z⟩
end
theorem ZhH{P}{w}{H:Hp}(h:Heap)(hb:sysModules<h.objs.size):ObjOk P w H (h.push {cls:= .type "dict",data:= .dict #[]}) h.objs.size (.dT []):=
 ⟨QE _,U6.mpr (Ne.symm (Qo hb)),[],.nil,_,_,0,Ql _ rfl,⟨rfl,rfl,rfl⟩,rfl,rfl,Q4⟩
def tDNewT:TE:=fun _ H Q=>∀p,H p=none->Q (.ref p) (upd H p (.dT []))
section
variable{X:Cx}{pos:Pos}
theorem Zb8:PE X (.Dict [] [] pos) tDNewT:=fun _ s σ H Q I h=>
 wpAny_Dict_empty ⟨.ref s.heap.objs.size,_,I.laid (fun _ _ q=>Qc _ q) (Qe _) (ZhH s.heap I.big),rfl,h _ (I.hok.fresh (Qe _))⟩
end
structure M1(X:Cx)(o:Expr)(m:Str)(apos:Pos)(e:Expr)(cpos:Pos):Prop where
 base:attributeBase o m X.env (eval o X.env)=eval o X.env
 few:((backTo cpos (starEach [e] X.env)).all (fun x=> !x.1)&&(backToKw cpos (keywordEach [] X.env)).all (fun x=>x.1.isSome)
  &&decide (([e]:List Expr).length+([]:List Keyword).length+(if([]:List Keyword).isEmpty then 0 else 1)<30))=true
 line:(apos.endLine==cpos.line)=true
 trees:backTo cpos (starEach [e] X.env)=[(false,eval e X.env)]
structure M2(X:Cx)(o:Expr)(m:Str)(apos:Pos)(e f:Expr)(cpos:Pos):Prop where
 base:attributeBase o m X.env (eval o X.env)=eval o X.env
 few:((backTo cpos (starEach [e,f] X.env)).all (fun x=> !x.1)&&(backToKw cpos (keywordEach [] X.env)).all (fun x=>x.1.isSome)
  &&decide (([e,f]:List Expr).length+([]:List Keyword).length+(if([]:List Keyword).isEmpty then 0 else 1)<30))=true
 line:(apos.endLine==cpos.line)=true
 trees:backTo cpos (starEach [e,f] X.env)=[(false,eval e X.env),(false,eval f X.env)]
def IsD(H:Hp)(a:Addr):Prop:=(∃kvs,Rd H a (.dK kvs))\/∃kvs,Rd H a (.dT kvs)
theorem Zhq{X}{pins}{σ:St}{H}{s:Shared}{a:Addr}(I:Inv X pins σ H s)(d:IsD H a):
  s.TypeIs (.ref a) "dict"/\(∀b,Value.ref a= .ref b->∃ob,s.heap.get? b=some ob/\ob.dict=none)/\(a==sysModules)=false:=by
 rcases d with⟨h,e⟩|⟨h,e⟩
 ·obtain⟨_,g,_,_,c⟩:=ZbR I.hok e
  refine⟨c.typeIs,fun b q=>?_,g⟩;cases q;obtain⟨ob,_,_,i,f,_⟩:=c;exact⟨ob,i,f.2.1⟩
 ·obtain⟨_,g,_,_,c⟩:=ZbQ I.hok e
  refine⟨c.typeIs,fun b q=>?_,g⟩;cases q;obtain⟨ob,_,_,i,f,_⟩:=c;exact⟨ob,i,f.2.1⟩
section
variable{X:Cx}{pins:List (Addr×Obj)}{σ:St}{H:Hp}{s:Shared}{a:Addr}{y d:V}{u r:Value}{o:Option V}{A:Around}{E:Value->Shared->Prop}
theorem ZkT{Q}(hu:A.units+1<cLine)(I:Inv X pins σ H s)(g:DGet H a y o)(ry:RelV y u)(rd:RelV d r)(h:∀w' s',Inv X pins σ H s'->RelV (o.getD d) w'->Q w' s'):
  wpAny (model X.prog X.w) A (call (.builtin "dict.get") [.ref a,u,r]) Q E s:=by
 rcases g with⟨n,k,e,m,l⟩|⟨n,k,b,e,m,t,l⟩
 ·subst m
  obtain⟨z,p,_,f,i⟩:=ZbR I.hok e;refine call_meetsIn PySem.F.slot_dict_get i.typeIs PySem.F.entry_dict_get (PySem.F.args_dict_get_3 _ _ _) (meets_dict_get_default (ZQ X.prog X.w) a (ZbI ry) p r) ⟨_,i.mapOf,h _ _ (I.tok _) ?_⟩;rw[l];exact(f.val k).getD rd
 ·subst m
  cases ry
  obtain⟨z,p,q,f,i⟩:=ZbQ I.hok e;refine call_meetsIn PySem.F.slot_dict_get i.typeIs PySem.F.entry_dict_get (PySem.F.args_dict_get_3 _ _ _) (meetsH_dict_get_default (tupleKind (ZQ X.prog X.w)) a b p r) ⟨tupleKind_room_in1 hu,k,q,ZaL I.hok t,i,h _ _ (I.tok _) ?_⟩;rw[l];exact(f.val k).getD rd
end
def ZjG(td ty tx:TE):TE:=fun σ H Q=>td σ H fun x H1=>∃a,x= .ref a/\IsD H1 a/\ty σ H1 fun y H2=>tx σ H2 fun z H3=>∃o,DGet H3 a y o/\Q (o.getD z) H3
section
variable{X:Cx}{o e f:Expr}{apos cpos:Pos}{td ty tx:TE}
theorem Zd6(hu:X.A.units+1<cLine)(ho:PE X o td)(he:PE X e ty)(hf:PE X f tx)(m:M2 X o "get" apos e f cpos):PE X (.Call (.Attribute o "get" apos) [e,f] [] cpos) (ZjG td ty tx):=by
 refine fun i s σ H Q I h=>wpAny_Call_method m.base m.few m.line PySem.F.plainAttrs_dict PySem.F.slot_dict_get PySem.F.type_dict_get (thn (ho i s σ H _ I h) fun u l xq1=>?_);obtain⟨x,n,k,B,a,v,d,p⟩:=xq1;subst v;obtain rfl:u=Value.ref a:=B;obtain⟨w,q,_⟩:=Zhq k d;refine⟨w,q,?_⟩;rw[m.trees];exact Calls.callWith_builtin rfl (Calls.evalArgs_plain (UU (thn (he i l σ n _ k p) fun _ G⟨y,M,K,D,C⟩=>
  UU (thn (hf i G σ M _ K C) fun _ _⟨z,r,J,E,_,g,L⟩=>Calls.spliced_nil (ZkT hu J g D E fun _ _ t j=>⟨_,r,t,j,L⟩)))))
end
theorem Zi2:type_of%(@JH true true):=JH
theorem ZmC:type_of%(@YZ true true):=YZ
abbrev Ity:=ItG true true
abbrev Zm6:=Zft true true
end L2
namespace L2
open PySem PySem.Spec PyProof.Rows PySem.SeqAt
def nIs:Option Int->Value->Bool
 |Option.none,Value.none=>true
 |some k,v=>Value.isInt k v
 |_,_=>false
def nH:Option Int->Int
 |Option.none=>0xFCA86420
 |some k=>hashInt k
theorem Yd{k}{v}(h:nIs k v=true):(k=Option.none/\v=Value.none)\/∃i t,k=some i/\v=Value.int i t:=by
 cases k with
 |none=>
  cases v<;>first|grind|cases h
 |some i=>
  obtain⟨t,e⟩:=Value.isInt_shape h;exact .inr ⟨i,t,rfl,e⟩
section
variable{prog:Program}{w:World}{A:Around}{E:Value->Shared->Prop}{s:Shared}
theorem Zd4{Q}(h:Q 0xFCA86420 {s with toks:=s.toks+1}):wpAny (model prog w) A (pyHash .none) Q E s:=by
 have a:s.TypeIs .none _:=rfl;unfold pyHash;have _:[Value.none].any Value.onHeap=_:=rfl;refine Qa (Qg (Qa (wpAny_specialOf a F.slot_NoneType_hash.lookup ?_)));refine Qa (wpAny_specialOf a F.slot_NoneType_hash.lookup (Qa (wpAny_callSpecialIfBoundUnlessNone?_slot a F.slot_NoneType_hash
  (UJ F.slot_NoneType_hash a F.entry_NoneType_hash
   (wpAny_ret_mkInt ?_) (F.args_NoneType_hash_1 _)))))
 exact Qg h
end
def Zcx(prog)(w):PySem.KeyKind prog w (Option Int)where
 is:=nIs
 hash:=nH
 inj:=fun v a b ha hb=>by
  rcases Yd ha with⟨rfl,rfl⟩|⟨i,t,rfl,rfl⟩
  ·rcases Yd hb with⟨rfl,_⟩|⟨j,u,rfl,e⟩
   ·rfl
   ·cases e
  ·rcases Yd hb with⟨rfl,e⟩|⟨j,u,rfl,e⟩
   ·cases e
   ·injection e with e1 _;rw[e1]
 byValue:=fun k v h=>by
  rcases Yd h with⟨rfl,rfl⟩|⟨i,t,rfl,rfl⟩<;>rfl
 pyHash:=fun hv h=>by
  rcases Yd hv with⟨rfl,rfl⟩|⟨i,t,rfl,rfl⟩
  ·exact Zd4 h
  ·exact wpAny_pyHash_int h
 eqBool:=fun{A E s a b u v Q} hu hv h=>by
  rcases Yd hu with⟨rfl,rfl⟩|⟨i,t,rfl,rfl⟩
  ·rcases Yd hv with⟨rfl,rfl⟩|⟨j,u,rfl,rfl⟩
   ·exact EqAt.same _ _ _ _ _ (by simpa using h)
   ·exact EqAt.none_int j u _ _ _ _ (by simpa using h)
  ·rcases Yd hv with⟨rfl,rfl⟩|⟨j,u,rfl,rfl⟩
   ·exact EqAt.int_none i t _ _ _ _ (by simpa using h)
   ·have e:decide (some i=some j)=(i==j):=by
     by_cases z:i=j
     ·subst z;simp
     ·rw[QX (fun q=>z (Option.some.inj q))];exact(U6.mpr z).symm
    rw[e]at h;exact wpAny_eqBool_int h
 «strs»:=fun k x t v h=>by
  rcases Yd h with⟨rfl,e⟩|⟨i,u,rfl,e⟩
  ·cases e
  ·cases e
end L2
namespace PySem
open Sem (wp)
theorem Zdc:typeLookup (.type "list") "keys"=pure none:=by kernel_rfl
section
variable{prog:Program}{w:World}{A:Around}{E:Value->Shared->Prop}{s:Shared}
theorem ZbH{a}{o}{xs}{k}{Q:Option _->Shared->Prop}(hx:s.heap.get? a=some o)(hc:o.cls= .type "list")(hdat:o.data= .seq xs k)(hd:o.dict=none)(hA:A.handled=none)
  (h:∀h' tk,(∀b o,s.heap.get? b=some o->h'.get? b=some o)->Q none {s with heap:=h',toks:=tk}):wpAny (model prog w) A (getAttr? (.ref a) "keys") Q E s:=by
 obtain⟨c,dct,dat,sl⟩:=o;subst hc hdat hd;obtain⟨hp,g,d,tk,os⟩:=s;have hT:∀i,(⟨hp,g,d,i,os⟩:Shared).TypeIs (.ref a) "list":=fun _=>⟨_,hx,rfl⟩;have f1:=sub_AttributeError;have f3:=F.slot_list_getattribute.lookup;have f4:=F.slot_list_getattribute.bind (.ref a);have f5:=am_list_getattr_none;have hm:=Zdc;unfold getAttr? getAttrBy? getAttrBy
 repeat (any_goals (first|assumption|exact hT _|((with_reducible show wpAny _ _ (call (Value.builtin "list.__getattribute__") _ _) _ _ _);refine UP F.slot_list_getattribute (hT _) am_entry_list_getattribute (F.args_list_getattribute_2 _ _) (meets_getattribute_miss_list a xs k sl "keys" _ hm (by decide+kernel) (by size_fits)) ⟨hx,hA,fun h' i e hx'=>?_⟩)|wp_step))
 obtain⟨t',u',he⟩:=hx'.there;have hTe:∀i,(⟨h',g,d,i,os⟩:Shared).TypeIs (.ref e) "AttributeError":=fun _=>⟨_,he,rfl⟩;unfold getattributeRaised
 repeat (any_goals (first|assumption|exact hTe _|wp_step))
 exact h _ _ hx'.keeps
end
end PySem
namespace DictL
open PySem PySem.Spec PyProof.Rows
theorem ZbP:entryFor table "dict.update.loop"=some Builtin.«dict.update.loop»:=entryFor_of_tree (by kernel_rfl)
theorem Zb4:plainId "dict.update.loop"=true:=by decide+kernel
section
variable{prog:Program}{w:World}{K:Type}[DecidableEq K]{knd:KeyKind prog w K}{A:Around}{R:Result->Shared->Prop}{I:Addr}{fp wr:List Addr}{G:Array GenState->Array GenState->Prop}{n:Nat}{P:Nat->Value->Prop}{St:Nat->Shared->Prop}
def upTo(kv:Nat->K×Value)(i:Nat):List (K×Value):=((List.range i).map kv).foldl (fun acc p=>stored acc p.1 p.2) []
theorem upTo_succ(kv:Nat->K×Value)(i):upTo kv (i+1)=stored (upTo kv i) (kv i).1 (kv i).2:=by
 unfold upTo;rw[UA,QO,List.foldl_append];rfl
theorem Zen(kvs)(k:K)(v):(stored kvs k v).length<=kvs.length+1:=by
 unfold stored;split
 ·simp
 ·simp_all
theorem Zdq(kv:Nat->K×Value):∀i,(upTo kv i).length<=i
 |0=>Qe _
 |i+1=>by
  rw[upTo_succ];have:=Zdq kv i;have:=Zen (upTo kv i) (kv i).1 (kv i).2;omega
def PairAt(knd:KeyKind prog w K)(h:Heap)(b:Addr)(p:K×Value):Prop:=∃o key m,h.get? b=some o/\o.cls= .type "tuple"/\o.data= .seq #[key,p.2] m/\knd.is p.1 key=true
theorem loop(W:WalksS prog w A.in1 I fp wr G n P St)(D)(hDf:D ∉ fp)(kv)(hb:n<=1000):
  ∀(k i)(s),n-i=k->i<=n->St i s->(∀(j) v,P j v->∃b,v= .ref b/\PairAt knd s.heap b (kv j)/\b ∉ D::wr)->
   s.heap.DictOf knd D (upTo kv i)->
   (∀s',Moved (D::wr) G s s'->s'.heap.DictOf knd D (upTo kv n)->R (.ok (.ret .none)) s')->
   codeAny (model prog w) A (.builtin "dict.update.loop" ⟨[.ref D,.ref I,rawInt i,.none],[]⟩) R s:=by
 have a:∀b∈wr,b∈D::wr:=fun b hb=>Uc _ hb;have d:∀{s s':Shared}{f:List _},(∀b o,b ∉ wr->s.heap.get? b=some o->s'.heap.get? b=some o)->s.heap.DictOf knd D f->s'.heap.DictOf knd D f:=by
  intro s s' f hk hS;obtain⟨o,es,ep,ho,r⟩:=hS;exact⟨o,es,ep,hk D o (fun h=>hDf (W.sub _ h)) ho,r⟩
 intro k
 induction k with
 |zero=>
  intro i s hk hi q hv hS hR;have hin:i=n:=by omega
  subst hin;exact Ua ZbP (Qa (W.done s _ _ q fun s' l=>Qa (Qg (Qg (hR s' (l.mono a) (d l.heap hS))))))
 |succ k ih=>
  intro i s hk hi q hv hS hR;have t:i<n:=by omega
  refine Ua ZbP (Qa (W.item i s _ _ t q fun v s' hP hst' l=>?_));obtain⟨b,rfl,hp,hbn⟩:=hv i v hP;obtain⟨o,key,m,ho,hc,hd,hk'⟩:=hp;have ho':=l.heap b o (fun z=>hbn (a b z)) ho;refine Qa (Q5 (Qa (wpAny_tryCatch ?_)));unfold Builtin.Dict.pairItems;refine Qa (wpAny_typeOf (show s'.TypeIs (.ref b) "tuple" from⟨o,ho',hc⟩) ?_);rw[if_pos (by decide)];refine Qa (Q9 ho' hd (Qg (Q5 ?_)));have hlen:=Zdq kv i;refine wpAny_dictSet_pairs (hsz:=L2.Yh (by omega)) hk' (d l.heap hS) fun h' hD' g=>?_;rw[<-upTo_succ]at hD';refine Qg ⟨UD Zb4 _,ih (i+1) _ (by omega) t (W.frame _ s' _ _ hst' (Nat.le_add_right _ _) fun c x o' e=>?_) (fun j v hj=>?_) hD' fun s'' hm'' hS''=>?_⟩
  ·rw[g.2 c (fun h:c=D=>hDf (by grind))];exact e
  ·obtain⟨b2,e2,⟨ob,key2,m2,h1,h2⟩,p⟩:=hv j v hj
   exact⟨b2,e2,⟨ob,key2,m2,(g.2 b2 (fun h:b2=D=>p (by grind))).trans (l.heap b2 ob (fun z=>p (a b2 z)) h1),h2⟩,p⟩
  ·refine hR s'' (Moved.trans W.gtrans ((l.mono a).then_heap (Nat.le_add_right _ _) fun c o' x e=>?_) hm'') hS''
   rw[g.2 c (fun h:c=D=>x (by grind))];exact e
end
section
variable{prog:Program}{w:World}{K:Type}[DecidableEq K]{knd:KeyKind prog w K}{A:Around}{E:Value->Shared->Prop}{s:Shared}
theorem call_dict_list{l}{items}{kv}{Q}(hh:A.handled=none)(hl:∃o m,s.heap.get? l=some o/\o.cls= .type "list"/\o.dict=none/\o.data= .seq items m)
  (hi:∀(i:Nat)(v:Value),items[i]?=some v->∃b,v= .ref b/\PairAt knd s.heap b (kv i)) (hb:items.size<=1000)
  (h:∀(h':Heap)(tk:Nat),h'.DictOf knd s.heap.objs.size (upTo kv items.size)->(∀b o,s.heap.get? b=some o->h'.get? b=some o)->Q (.ref s.heap.objs.size) {s with heap:=h',toks:=tk}):
  wpAny (model prog w) A (call (.type "dict") [.ref l]) Q E s:=by
 obtain⟨ol,ml,t,n,hdl,q⟩:=hl;refine callType_codes (Q₁:=fun u s₁=>u= .ref s.heap.objs.size/\s₁={s with heap:=s.heap.push {cls:= .type "dict",data:= .dict #[]}}) F.kt_called_dict (F.kt_typeCall_dict_1 _) F.entry_dict_init (kt_code_dict_new _ ⟨rfl,rfl⟩) ?_;rintro u s₁ ⟨rfl,rfl⟩;have a:(s.heap.push {cls:= .type "dict",data:= .dict #[]}).DictOf knd s.heap.objs.size []:=Heap.DictOf.new s.heap;have d:(s.heap.push {cls:= .type "dict",data:= .dict #[]}).get? l=some ol:=Qc _ t;refine⟨a.typeIs,F.args_dict_init_2 _ _,Qa ?_⟩;refine Qa (wpAny_notOrdered_dict a.typeIs (Qg (Qa (wpAny_typeOf ⟨ol,d,n⟩ (Qa (ZbH d n q hdl (by simp[hh]) fun D tk1 G=>Qa (wpAny_rule ?_)))))));have g:=G _ _ d;have B:D.IsList l items:=⟨ol,g,n,ml,q⟩;refine Qa (UN B ?_);have y:s.heap.objs.size<D.objs.size:=by
  obtain⟨o,_,_,ho,_⟩:=a;exact Qh (G _ _ ho)
 have up:∀b o,s.heap.get? b=some o->(D.push {cls:= .type "list_iterator",data:= .fields #[.ref l,.int 0 0]}).get? b=some o:=fun b o e=>Qc _ (G _ _ (Qc _ e));refine Qg ⟨UD Zb4 _,loop (knd:=knd) ((Walks.list (show A.in1.in1.handled=none by simp[hh]) D.objs.size l (Qo (Qh g)) items).toS) s.heap.objs.size ?hf kv hb (items.size-0) 0 _ (by simp) (QE _)
  ⟨⟨_,Ql _ rfl,rfl,rfl⟩,(B.push _)⟩ (fun i v hv=>?z) ?hS0 ?hR⟩
 case hf=>
  simp[Qn,Qf,Qt,Q3,not_or];exact⟨Qo y,Uo (Qh t)⟩
 case z=>
  obtain⟨b,e,o,key,m,p,h2'⟩:=hi i v hv;have j:=Qh p;refine⟨b,e,⟨o,key,m,up _ _ p,h2'⟩,?_⟩;simp[Qn,Qf,Qt,Q3,not_or];exact⟨Qo j,Qo (Nat.lt_trans j y)⟩
 case hS0=>
  obtain⟨o,es,ep,ho,r⟩:=a;exact⟨o,es,ep,Qc _ (G _ _ ho),r⟩
 case hR=>
  intro s' C hS';obtain⟨h',g',d',tk',os'⟩:=s';have eg:=C.gens;have ed:=C.drawn;have eo:=C.os;subst eg;subst ed;subst eo;refine⟨rfl,h h' tk' hS' fun b o e=>?_⟩;have j:=Qh e;exact C.heap b o (by grind) (up b o e)
end
end DictL

namespace L2
open PySem PySem.Spec PyProof.Rows
def nV:Option Int->V
 |Option.none=> .non
 |some i=> .int i
theorem Zj1{P}{w}{k}{u}(r:RelV (nV k) u):(Zcx P w).is k u=true:=by
 cases k with
 |none=>cases r;rfl
 |_ i=>
  obtain⟨t,rfl⟩:=r;show Value.isInt i (.int i t)=true;simp[Value.isInt]
def Zgk(P:Program)(w:World)(a:Addr)(kvs:List (Option Int×V)):HO:= .ext fun h=>kvs.length<=sizeLine/\(a==sysModules)=false/\∃vs,KV kvs vs/\h.DictOf (Zcx P w) a vs
theorem ZmF{P}{w}{H}{h}{a}{kvs}{vs}(z:kvs.length<=sizeLine)(hd:(a==sysModules)=false)(rel:KV kvs vs)(dd:h.DictOf (Zcx P w) a vs):ObjOk P w H h a (Zgk P w a kvs):=by
 refine⟨⟨z,hd,vs,rel,dd⟩,let⟨o,_,_,b,_⟩:=dd;⟨o,b⟩,fun _ _ x k=>?_⟩;obtain⟨e,g,_,c,o,f,d,b,r⟩:=x;exact⟨e,g,_,c,o,f,d,k o b,r⟩
section
variable{X:Cx}
theorem ZmG{pins}{σ:St}{H}{s}{a}{kvs}(I:Inv X pins σ H s)(e:H a=some (Zgk X.prog X.w a kvs)):kvs.length<=sizeLine/\(a==sysModules)=false/\∃vs,KV kvs vs/\s.heap.DictOf (Zcx X.prog X.w) a vs:=(I.hok a _ e).1
def Zdv(P:Program)(w:World)(ty td:TE):TE:=fun σ H Q=>ty σ H fun y H1=>td σ H1 fun x H2=>∃a kvs k,x= .ref a/\y=nV k/\H2 a=some (Zgk P w a kvs)/\Q (.bl (!(ZD kvs k).isSome)) H2
theorem Zex{i o}{ty td}(hi:PE X i ty)(ho:PE X o td):PC X .NotIn i o (Zdv X.prog X.w ty td):=by
 refine fun b s σ H Q I h=>thn (hi b s σ H _ I h) fun _ l⟨y,p,m,g,q⟩=>thn (ho b l σ p _ m q) fun u _ xq1=>?_;obtain⟨x,t,f,v,a,d,k,B,n,e,A⟩:=xq1;subst B n;obtain rfl:u=Value.ref a:=v;obtain⟨z,r,_,c,j⟩:=ZmG f e;refine wpAny_notIn_of (Zj1 g) r j.mapOf ?_;rw[<-(c.val k).isSome_eq];exact⟨.bl (!(ZD d k).isSome),t,f.tok _,rfl,A⟩
def Yn(ps:List (Option Int×V)):List (Option Int×V):=ps.foldl (fun acc p=>putK acc p.1 p.2) []
inductive Zkb(P:Program)(w:World)(K:PySem.W.Frag)(xs:List V)(H:Hp)(Q:VK):Prop
 |mk (p ys:_) (ps:List (Option Int×V)) (_:xs=[.ref p]) (_:SqL K H p ys) (_:ys.length=ps.length) (_:ys.length<=1000) (_:(∀(i:Nat) y pr,ys[i]?=some y->ps[i]?=some pr->∃b,y= .ref b/\H b=some (.tup [nV pr.1,pr.2]))) (_:∀q H',Same H H'->H' q=some (Zgk P w q (Yn ps))->Q (.ref q) H')
theorem Zcg(ps):(Yn ps).length<=ps.length:=by
 have b:∀(ps a:List (Option Int×V)),(ps.foldl (fun a p=>putK a p.1 p.2) a).length<=a.length+ps.length:=by
  intro ps
  induction ps with
  |nil=>simp_all
  |_ p ps c=>
   intro a;have _:=c (putK a p.1 p.2);have _:=ZT a p.1 p.2
   grind
 have:=b ps []
 simpa[Yn]using this
theorem Zaz{ps:List _}{kv}(h:∀i,(hi:i<ps.length)->(kv i).1=ps[i].1/\RelV ps[i].2 (kv i).2):∀n,n<=ps.length->KV (Yn (ps.take n)) (DictL.upTo kv n)
 |0,_=> .nil
 |n+1,_=>by
  obtain⟨a,b⟩:=h n (by assumption);rw[Ue,Qb (by trivial),DictL.upTo_succ];unfold Yn;rw[List.foldl_append,a];exact(Zaz h n (by omega)).put _ b
theorem ZeJ{k}(hr:Room k X.A):CallR X (.type "dict") (Zkb X.prog X.w X.K):=by
 intro pins s σ H xs us Q I r h;obtain⟨p,ys,c,rfl,hp,hlen,h1000,hk,q⟩:=h;obtain⟨u,rfl,rx⟩:=vals1 r;cases rx;obtain⟨vs,rv,pl,hz⟩:=I.list hp;have hvl:=rv.length;have ex:∀i:Nat,∃m,∀(e),m.1=c[i].1/\RelV c[i].2 m.2/\∀v,vs[i]?=some v->∃b,v= .ref b/\DictL.PairAt (Zcx X.prog X.w) _ b m:=fun i=>by
  by_cases e:i<c.length
  ·have hy:ys[i]?=some _:=Qb (by omega)
   obtain⟨b,eb,hb⟩:=hk i _ _ hy (Qb e);obtain⟨u2,e2,r2⟩:=rv.get hy;obtain⟨_,its,ri,o,ho,x,n,hd⟩:=I.hok b _ hb;obtain⟨u1,u3,rfl,ra,rb⟩:=vals2 ri;refine⟨(c[i].1,u3),fun _=>⟨rfl,rb,fun v t=>?_⟩⟩;rw[t]at e2;cases e2;rw[eb]at r2;exact⟨b,r2,o,u1,n,ho,x,hd,Zj1 ra⟩
  ·exact⟨(none,.none),fun h=>absurd h e⟩
 obtain⟨kv,g⟩:=Classical.axiomOfChoice ex;obtain⟨o,n,ho,x,l,hd⟩:=pl;refine DictL.call_dict_list (knd:=Zcx X.prog X.w) (kv:=kv) hr.hd ⟨o,n,ho,x,l,hd⟩ (fun i v t=>?_) (by grind) fun h' tk hD kp=>?_
 ·have hv':vs[i]?=some v:=by simpa using t
  grind
 ·rw[(show vs.toArray.size=c.length by simp_all)]at hD
  have j:=Zaz (fun i e=>⟨(g i e).1,(g i e).2.1⟩) _ (Qe _);rw[UL]at j;have hlp:=Zcg c;exact⟨.ref s.heap.objs.size,_,I.laid (o:=Zgk X.prog X.w s.heap.objs.size (Yn c)) kp (Qe _) (ZmF (Yh (by omega)) (U6.mpr (Ne.symm (Qo I.big))) j hD),rfl,q _ _ (Z0 (I.hok.fresh (Qe _))) Zd⟩
theorem Zdg(ps)(k):(ZD (Yn ps) k).isSome=true↔∃p∈ps,p.1=k:=by
 have c:∀(ps a:List (Option Int×V)),(ZD (ps.foldl (fun a p=>putK a p.1 p.2) a) k).isSome=true↔(ZD a k).isSome=true\/∃p∈ps,p.1=k:=by
  intro ps
  induction ps with
  |nil=>simp_all
  |_ p ps f=>
   intro a;show(ZD (ps.foldl (fun a p=>putK _ _ _) _) k).isSome=true↔_;rw[f,Yp];by_cases e:k=p.1
   ·simp_all
   ·rw[if_neg e]
    constructor
    ·rintro(h|⟨q,d,g⟩)
     ·exact .inl h
     ·exact .inr ⟨q,.tail _ d,g⟩
    ·grind
 have:=c ps [];rw[show(Yn ps)=ps.foldl (fun a p=>putK _ _ _) []from rfl,this];exact⟨fun h=>h.elim (fun z=>by cases z) id,.inr⟩
end
theorem Zh{H}{d}{o}(h:H d=Option.none):Same H (upd H d o):=fun b u e=>by rw[Zi (Zq e h)];exact e
theorem Same.none{H H'}(s:Same H H'){d}(h:H' d=Option.none):H d=Option.none:=by
 cases z:H d with
 |none=>rfl
 |_ o=>rw[s d o z]at h;cases h
theorem Same.wr{H H'}(s:Same H H'){d}{o}(h:H d=Option.none):Same H (upd H' d o):=fun b u e=>by rw[Zi (Zq e h)];exact s b u e
end L2
namespace My
open PySem L2
theorem Yv:bootBuiltins "len"=some (.builtin "len"):=by decide+kernel
theorem Zaf:bootBuiltins "isinstance"=some (.builtin "isinstance"):=by decide+kernel
theorem ZkW:bootBuiltins "int"=some (.type "int"):=by decide+kernel
theorem Zj7:bootBuiltins "bool"=some (.type "bool"):=by decide+kernel
theorem Y2:bootBuiltins "tuple"=some (.type "tuple"):=by decide+kernel
theorem ZhV:bootBuiltins "list"=some (.type "list"):=by decide+kernel
theorem ZhU:bootBuiltins "max"=some (.builtin "max"):=by decide+kernel
theorem ZmW:bootBuiltins "min"=some (.builtin "min"):=by decide+kernel
theorem ZmX:bootBuiltins "dict"=some (.type "dict"):=by decide+kernel
structure Bi(mg:Str->Option Value):Prop where
 len:mg "len"=none
 isi:mg "isinstance"=none
 int:mg "int"=none
 bool:mg "bool"=none
 tuple:mg "tuple"=none
 list:mg "list"=none
 range:mg "range"=none
 max:mg "max"=none
 min:mg "min"=none
 zip:mg "zip"=none
 dict:mg "dict"=none
theorem kit(K)(T U)(b)(h:PySem.W.kitOne [] (.type T) (.type U)=some b):PySem.W.kitOne K (.type T) (.type U)=some b:=h
def TieOk(H:Hp)(n:Int)(t:V):Prop:=∃q i j,t=V.ref q/\H q=some (.tup [.int i,.int j])/\0<=i/\i<n/\0<=j/\j<n/\i≠j
def Ties(H:Hp)(n:Int)(ts:List V):Prop:=∀t∈ts,TieOk H n t
theorem TieOk.same{H H'}{n}{t}(h:TieOk H n t)(k:Same H H'):TieOk H' n t:=let⟨q,i,j,a,b,c⟩:=h;⟨q,i,j,a,k _ _ b,c⟩
theorem Ties.same{H H'}{n}{ts}(h:Ties H n ts)(k:Same H H'):Ties H' n ts:=fun t a=>(h t a).same k
structure NetZ(H:Hp)(p:Addr)(n:Nat)(q:Addr)(ts:List V)(es:List (Nat×Nat)):Prop where
 e1:H p=some (.tup [.int (n:Int),.ref q])
 e2:H q=some (.tup ts)
 len:ts.length=es.length
 tie:∀(i:Nat) t,ts[i]?=some t->∃a,t=V.ref a/\H a=some (.tup [.int ((es.getD i (0,0)).1:Int),.int ((es.getD i (0,0)).2:Int)])
 l200:es.length<=200
 n60:n<=60
 ok:∀e∈es,e.1<n/\e.2<n/\e.1≠e.2
theorem NetZ.same{H H':Hp}{p q:Addr}{n:Nat}{ts:List V}{es:List _}(h:NetZ H p n q ts es)(k:Same H H'):NetZ H' p n q ts es:=
 ⟨k _ _ h.e1,k _ _ h.e2,h.len,fun i t e=>let⟨a,x,y⟩:=h.tie i t e;⟨a,x,k _ _ y⟩,h.l200,h.n60,h.ok⟩
theorem getD_mem{es:List _}{k}(h:k<es.length):es.getD k (0,0)∈es:=by simp_all
theorem NetZ.at'{H}{p q}{n}{ts}{es}(h:NetZ H p n q ts es){k:Nat}(hk:k<es.length):∃a,ts[k]?=some (.ref a)/\H a=some (.tup [.int ((es.getD k (0,0)).1:Int),.int ((es.getD k (0,0)).2:Int)]):=by
 have b:k<ts.length:=by rw[h.len];exact hk
 obtain⟨a,x,y⟩:=h.tie k _ (Qb b)
 simp_all
theorem ZeR{H}{n}:∀{ts:List V},Ties H n ts->∃es:List (Nat×Nat),ts.length=es.length/\(∀(i:Nat) t,ts[i]?=some t->∃a,t=V.ref a/\H a=some (.tup [.int ((es.getD i (0,0)).1:Int),.int ((es.getD i (0,0)).2:Int)]))/\∀e∈es,(e.1:Int)<n/\(e.2:Int)<n/\e.1≠e.2
 |[],_=>⟨[],rfl,(fun i t e=>by grind),fun e h=>by cases h⟩
 |t::ts,h=>by
  obtain⟨es,h1,h2,h3⟩:=ZeR fun u c=>h u (.tail _ c);obtain⟨q,i,j,rfl,b,b1,b2,d,b4,b5⟩:=h t (.head _);refine⟨(i.toNat,j.toNat)::es,by simp_all,fun k u e=>?_,fun e he=>?_⟩
  ·cases k with
   |zero=>
    cases e
    refine⟨q,rfl,?_⟩;show H q=some (.tup [.int ((i.toNat:Nat):Int),.int ((j.toNat:Nat):Int)]);rw[US b1,US d];exact b
   |_ k=>
    simp_all
  ·grind
theorem ZiE{H}{p q}{n m}{ts}(e1:H p=some (.tup [.int m,.ref q]))(e2:H q=some (.tup ts))(l:ts.length<=200)(hT:Ties H n ts)(h0:0<=m)(h60:m<=60)(hnm:n<=m):∃es,NetZ H p m.toNat q ts es:=by
 obtain⟨es,a,b,_⟩:=ZeR hT;exact⟨es,by grind,e2,a,b,by omega,by omega,fun e _=>by grind⟩
def nl(l:List Nat):List V:=l.map fun x:Nat=>V.int x
theorem nl_get{l}{i x:Nat}(h:l[i]?=some x):(nl l)[i]?=some (.int x):=by unfold nl;simp_all
theorem Zy(l):(nl l).length=l.length:=by unfold nl;rw[Qq]
def tN:Option Nat->V
 |none=> .non
 |some t=> .int t
def tv(tl:List (Option Nat)):List V:=tl.map tN
theorem ZaA(tl):(tv tl).length=tl.length:=by unfold tv;rw[Qq]
theorem ZaB{tl}{i:Nat}{o}(h:tl[i]?=some o):(tv tl)[i]?=some (tN o):=by unfold tv;simp_all
theorem Zea{tl}{i:Nat}{x}(h:(tv tl)[i]?=some x):∃o,tl[i]?=some o/\x=tN o:=by
 unfold tv at h;rw[Qx]at h;cases e:tl[i]? with
 |none=>simp_all
 |some o=>simp_all
theorem Zli(o):tN o=nV (o.map fun t:Nat=>t):=by cases o<;>rfl
def At(e:Nat×Nat)(p:Nat):Prop:=p=e.1\/p=e.2
def Used(es:List (Nat×Nat))(tl:List (Option Nat))(k p t:Nat):Prop:=∃j,j<k/\tl[j]?=some (some t)/\At (es.getD j (0,0)) p
def CleanTo(es:List (Nat×Nat))(tl:List (Option Nat))(k:Nat):Prop:=∀i j t,j<i->i<k->tl[i]?=some (some t)->tl[j]?=some (some t)->∀p,At (es.getD i (0,0)) p->¬At (es.getD j (0,0)) p
theorem CleanTo.zero(es)(tl):CleanTo es tl 0:=fun i j t _ h=>absurd h (QK _)
theorem Used.zero{es}{tl}{p t}:¬Used es tl 0 p t:=fun⟨j,h,_⟩=>absurd h (QK _)
theorem Used.succ{es}{tl}{k p t}:Used es tl (k+1) p t↔Used es tl k p t\/(tl[k]?=some (some t)/\At (es.getD k (0,0)) p):=by
 constructor
 ·rintro⟨j,h,a,b⟩
  by_cases e:j=k
  ·simp_all
  ·exact .inl ⟨j,by omega,a,b⟩
 ·rintro(⟨j,h,a,b⟩|⟨a,b⟩)
  ·exact⟨j,by omega,a,b⟩
  ·exact⟨k,by simp,a,b⟩
theorem CleanTo.succ{es}{tl}{k}(h:CleanTo es tl k)(hk:∀t,tl[k]?=some (some t)->∀p,At (es.getD k (0,0)) p->¬Used es tl k p t):CleanTo es tl (k+1):=by
 intro i j t c _ f d p a b;by_cases e:i=k
 ·subst e
  exact hk t f p a ⟨j,c,d,b⟩
 ·exact h i j t c (by omega) f d p a b
theorem CleanTo.not{es}{tl}{k p t}{n}(hk:k<n)(h1:tl[k]?=some (some t))(hp:At (es.getD k (0,0)) p)(hu:Used es tl k p t):¬CleanTo es tl n:=fun h=>by
 obtain⟨j,a,c,b⟩:=hu;exact h k j t a hk h1 c p hp b
abbrev ky(a b:Nat):List Key:=[Sum.inl a,Sum.inl b]
theorem Zho{a b c d}(h:ky a b=ky c d):a=c/\b=d:=by
 grind
def Keys(kvs:List (List Key×V))(R:Nat->Nat->Prop):Prop:=∀p t:Nat,(ZD kvs (ky p t)).isSome=true↔R p t
theorem Keys.put{kvs}{R}(h:Keys kvs R)(a b)(v):Keys (putK kvs (ky a b) v) (fun p t=>R p t\/(p=a/\t=b)):=by
 intro p t;rw[Yp];by_cases e:ky p t=ky a b
 ·rw[if_pos e]
  exact⟨fun _=> .inr (Zho e),fun _=>rfl⟩
 ·rw[if_neg e,h p t]
  exact⟨.inl,fun z=>z.elim id fun⟨d,c⟩=>absurd (by rw[d,c]) e⟩
theorem Keys.iff{kvs}{R S}(h:Keys kvs R)(e:∀p t,R p t↔S p t):Keys kvs S:=fun p t=>(h p t).trans (e p t)
def put{α:Type}(f:Nat->α)(k:Nat)(v:α):Nat->α:=fun i=>if i=k then v else f i
theorem put_same{α}(f)(k)(v:α):put f k v k=v:=by unfold put;rw[if_pos rfl]
theorem put_ne{α}(f){k i}(v:α)(h:i≠k):put f k v i=f i:=by unfold put;rw[if_neg h]
def lv(L:Nat->Nat)(n:Nat):List V:=(List.range n).map fun x:Nat=>V.int (L x)
theorem ZbE(L)(n):(lv L n).length=n:=by unfold lv;grind
theorem Zdb(L){n k}(h:k<n):(lv L n)[k]?=some (.int (L k)):=by
 unfold lv
 simp_all
theorem ZkD(L)(n k v:Nat):(lv L n).set k (.int v)=lv (put L k v) n:=by
 apply List.ext_getElem?;intro i;by_cases a:i<n
 ·rw[Zdb _ a,Qy]
  by_cases e:k=i
  ·subst e
   rw[if_pos rfl,if_pos (by rw[ZbE];exact a),put_same]
  ·rw[if_neg e,Zdb _ a,put_ne _ _ (fun z=>e z.symm)]
 ·rw[Ut (by rw[QT,ZbE];omega),Ut (by rw[ZbE];omega)]
def cnt(tl:List (Option Nat))(t:Nat):Nat:=tl.count (some t)
end My
namespace My
def InP(tl:List (Option Nat))(u v k:Nat):Prop:=tl[k]?=some (some u)\/tl[k]?=some (some v)
inductive RP(es:List (Nat×Nat))(tl:List (Option Nat))(u v p:Nat):Nat->Prop
 |start:RP es tl u v p p
 |step {x y k:Nat}:RP es tl u v p x->k<es.length->InP tl u v k->At (es.getD k (0,0)) x->At (es.getD k (0,0)) y->RP es tl u v p y
def RT(es:List (Nat×Nat))(tl:List (Option Nat))(u v p k:Nat):Prop:=k<es.length/\InP tl u v k/\∃x,RP es tl u v p x/\At (es.getD k (0,0)) x
theorem InP.comm{tl:List (Option Nat)}{u v k:Nat}:InP tl u v k↔InP tl v u k:=⟨Or.symm,Or.symm⟩
theorem RP.comm{es:List (Nat×Nat)}{tl:List (Option Nat)}{u v p x:Nat}(h:RP es tl u v p x):RP es tl v u p x:=by
 induction h with
 |start=>exact .start
 |step _ h1 h2 h3 h4 ih=>exact .step ih h1 (InP.comm.mp h2) h3 h4
theorem RT.comm{es:List (Nat×Nat)}{tl:List (Option Nat)}{u v p k:Nat}:RT es tl u v p k↔RT es tl v u p k:=
 ⟨fun⟨a,b,x,c,d⟩=>⟨a,InP.comm.mp b,x,c.comm,d⟩,fun⟨a,b,x,c,d⟩=>⟨a,InP.comm.mp b,x,c.comm,d⟩⟩
theorem RT.end(h:RT es tl u v p k)(hy:At (es.getD k (0,0)) y):RP es tl u v p y:=let⟨a,b,x,c,d⟩:=h;.step c a b d hy
structure Walk(es:List (Nat×Nat))(tl:List (Option Nat))(u v p:Nat)(F:Nat->Prop)(V W:Nat->Prop):Prop where
 rt:∀k,F k->RT es tl u v p k
 rw:∀x,W x->RP es tl u v p x
 cl:∀x,V x->∀k,k<es.length->InP tl u v k->At (es.getD k (0,0)) x->F k
 en:∀k,F k->∀x,At (es.getD k (0,0)) x->V x\/W x
 st:V p\/W p
theorem Walk.done(h:Walk es tl u v p F V W)(hW:∀x,¬W x):∀k,F k↔RT es tl u v p k:=by
 have m:∀x,RP es tl u v p x->V x:=fun x i=>by
  induction i with
  |start=>exact h.st.resolve_right (hW _)
  |_ _ f e j g l=>exact(h.en _ (h.cl _ l _ f e j) _ g).resolve_right (hW _)
 exact fun k=>⟨h.rt k,fun⟨a,b,x,c,d⟩=>h.cl x (m x c) k a b d⟩
theorem YF:∀{a b:List Nat},a.Pairwise (·<·)->b.Pairwise (·<·)->(∀x,x∈a↔x∈b)->a=b
 |[],[],_,_,_=>rfl
 |[],y::b,_,_,h=>by have:=(h y).mpr (.head _);cases this
 |x::a,[],_,_,h=>by have:=(h x).mp (.head _);cases this
 |x::a,y::b,n,m,h=>by
  have j:=Vb.mp n;have f:=Vb.mp m;have e:x=y:=by
   have _:=(h y).mpr (.head _);rcases Qn.mp ((h x).mp (.head _))with z|z
   ·exact z
   ·grind
  subst e;congr 1;refine YF j.2 f.2 fun z=>?_;constructor
  ·intro g
   rcases Qn.mp ((h z).mp (.tail _ g))with q|q
   ·subst q;exact absurd (j.1 z g) (QU _)
   ·exact q
  ·intro g
   rcases Qn.mp ((h z).mpr (.tail _ g))with q|q
   ·subst q;exact absurd (f.1 z g) (QU _)
   ·exact q
theorem ZfM{a:List Nat}(h:a.Pairwise (·<=·))(nd:a.Nodup):a.Pairwise (·<·):=by
 induction a with
 |nil=>exact .nil
 |_ x a c=>
  have d:=Vb.mp h;refine Vb.mpr ⟨fun y _=>?_,c d.2 (QN.mp nd).2⟩
  grind
def deg(es:List (Nat×Nat)):List Nat->Nat->Nat
 |[],_=>0
 |k::l,x=>(if(es.getD k (0,0)).1=x then 1 else 0)+(if(es.getD k (0,0)).2=x then 1 else 0)+deg es l x
theorem ZbT(es)(x):∀a b:List _,deg es (a++b) x=deg es a x+deg es b x
 |[],b=>by show deg es b x=0+deg es b x;simp
 |k::a,b=>by
  show _+_+deg es (a++b) x=_+_+deg es a x+deg es b x;rw[ZbT es x a b];omega
def ZB(f:Nat->Nat):List Nat->Nat
 |[]=>0
 |x::l=>f x+ZB f l
theorem J0(f g):∀l,ZB (fun x=>f x+g x) l=ZB f l+ZB g l
 |[]=>rfl
 |x::l=>by show f x+g x+ZB _ l=f x+ZB f l+(g x+ZB g l);rw[J0 f g l];omega
theorem Jz:∀{l},l.Nodup->y∈l->ZB (fun x=>if y=x then 1 else 0) l=1
 |x::l,b,h=>by
  have a:=QN.mp b;show(if y=x then 1 else 0)+ZB _ l=1;rcases Qn.mp h with e|e
  ·subst e
   rw[if_pos rfl];have:∀l:List _,y ∉ l->ZB (fun x=>if y=x then 1 else 0) l=0:=by
    intro l
    induction l with
    |nil=>intro _;rfl
    |_ z l _=>
     intro _;show(if y=z then 1 else 0)+ZB _ l=0
     simp_all
   rw[this l a.1]
  ·rw[if_neg (fun q=>a.1 (by rw[<-q];exact e)),Jz a.2 e]
theorem Zbc{pts}(nd:pts.Nodup):∀{l},(∀k∈l,(es.getD k (0,0)).1∈pts/\(es.getD k (0,0)).2∈pts)->ZB (deg es l) pts=2*l.length
 |[],_=>by
  have:∀l:List Nat,ZB (deg es []) l=0:=by
   intro l
   induction l with
   |nil=>rfl
   |_ x l a=>show 0+ZB _ l=0;rw[a]
  rw[this];rfl
 |k::l,h=>by
  obtain⟨c,d⟩:=h k (.head _);rw[(show ZB (deg es (k::l)) pts=ZB (fun x=>(if(es.getD k (0,0)).1=x then 1 else 0)+(if(es.getD k (0,0)).2=x then 1 else 0)) pts+ZB (deg es l) pts from J0 (fun x=>(if(es.getD k (0,0)).1=x then 1 else 0)+(if(es.getD k (0,0)).2=x then 1 else 0)) (deg es l) pts),J0,Jz nd c,Jz nd d,Zbc nd fun j b=>h j (.tail _ b),QL];omega
theorem Zff:∀{pts},(∀x∈pts,f x=1\/f x=2)->ZB f pts+(pts.filter fun x=>decide (f x=1)).length=2*pts.length
 |[],_=>rfl
 |x::pts,h=>by
  have _:=Zff fun y a=>h y (.tail _ a);show f x+ZB f _+_=_
  grind
theorem ZhF{es:List _}{pts l:List _}(nd:pts.Nodup)(h:∀k∈l,(es.getD k (0,0)).1∈pts/\(es.getD k (0,0)).2∈pts) (hd:∀x∈pts,deg es l x=1\/deg es l x=2) (hc:pts.length<=l.length+1):
  (pts.filter fun x=>decide (deg es l x=1)).length=0\/(pts.filter fun x=>decide (deg es l x=1)).length=2:=by
 have _:=Zbc nd h;have _:=Zff hd;omega
def draw(ns:List Int)(k:Int):Int:=((ns.getD k.toNat 0).natAbs:Int)
theorem ZiZ(ns:List Int)(k:Int):0<=draw ns k:=Int.natCast_nonneg _
theorem ZeT{a d p:Int}(h0:0<=a)(h1:a<p)(h2:1<=d)(h3:d<p):(a+d)%p≠a:=by
 by_cases h:a+d<p
 ·rw[Int.emod_eq_of_lt (by omega) h];omega
 ·have e:(a+d)%p=a+d-p:=by
   have e1:(a+d-p)%p=(a+d)%p:=by rw[Int.sub_emod_right]
   rw[<-e1];exact Int.emod_eq_of_lt (by omega) (by omega)
  rw[e];omega
theorem next_ne{n p:Int}(h:2<=p):(n+1)%p≠n%p:=by
 have h1:=ZeT (a:=n%p) (d:=1) (p:=p) (Int.emod_nonneg _ (by omega)) (Int.emod_lt_of_pos _ (by omega)) (by simp) (by assumption);rw[Int.emod_add_emod]at h1;exact h1
theorem Jl{n p:Int}(h:0<p):0<=n%p:=Int.emod_nonneg _ (by omega)
theorem JY{n p:Int}(h:0<p):n%p<p:=Int.emod_lt_of_pos _ h
end My
namespace L2
open PySem PySem.Spec PyProof.Rows
def Znl(K:PySem.W.Frag)(bs:List (Option Nat))(ta:TA)(g:TG)(tt:TT)(te:TE):TE:=fun σ H Q=>ta σ H fun vs H1=>∃a c xs ys,vs=[.ref a,.ref c]/\SqT K H1 a xs/\SqT K H1 c ys/\xs.length=ys.length/\xs.length<=100000/\∃Pv:Nat->List V->St->Hp->Prop,Pv 0 [] (bst bs σ) H1/\
 (∀i zs σ H,i<=xs.length->Pv i zs σ H->SqT K H a xs/\SqT K H c ys/\zs.length<=i)/\
 (∀i x y zs σ H,xs[i]?=some x->ys[i]?=some y->Pv i zs σ H->∀T H2,Same H H2->H2 T=some (.tup [x,y])->g (.ref T) σ H2 fun σ3 H3=>tt σ3 H3 fun b H4=>if b=true then te σ3 H4 fun v H5=>Pv (i+1) (zs++[v]) σ3 H5 else Pv (i+1) zs σ3 H4)/\
 ∀zs σ H,Pv xs.length zs σ H->∀p H',Same H H'->H' p=some (.lst zs)->Q (.ref p) H'
theorem Zkl{a b elt}{ifs}{p pos' pos}{ta}{g}{tt}{te}(B:Blk X scope cl N bs)(hc:X.calm=true)
  (hgl:Gl X "zip")(hmr:X.mg "zip"=none)(ha:PA X [a,b] ta)(hm:JR ta)(hpl:ZV a=true)(hpl2:ZV b=true)(hg:∀C fp s H,PG (Z4 X scope cl C N fp s H) (.Tuple elts x1 tpos) g) (ht:∀C fp s H,PTs (Z4 X scope cl C N fp s H) ifs tt) (he:∀C fp s H,PE (Z4 X scope cl C N fp s H) elt te)
  (hs:∀x,foldedSetIterable (.Call (.Name "zip" p) [a,b] [] pos') X.env x=pure x:=by intro _;rfl):PE X (.ListComp elt [⟨.Tuple elts x1 tpos,.Call (.Name "zip" p) [a,b] [] pos',ifs,0⟩] scope pos) (Znl X.K bs ta g tt te):=by
 refine fun n s σ H Q I h=>@Zd5 X scope cl N bs _ _ elt ifs pos (Zm6 X.K ta) g tt te B hc (@Zi2 X elts x1 tpos a b ta p pos' hgl hmr ha hpl hpl2) hg ht he hs n s σ H Q I (hm σ H _ _ (fun vs H1 h=>?_) h);obtain⟨a,c,d,k,e,A,w,_,hz,z,p0,pl,ps,pd⟩:=h;refine⟨a,c,e,⟨d,A⟩,⟨k,w⟩,fun i m j σ H=>m=d.length-i/\i<=d.length/\z i j σ H,⟨d.length,by simp,QE _,p0⟩,?_⟩;rintro i m j σ H ⟨rfl,hi,f⟩;obtain⟨q,r,ql⟩:=pl i j σ H hi f;have hz':=Yh hz;by_cases l:i<d.length
 ·refine .inr ⟨⟨d,k,d[i],k[i],q,r,by simp[l],by simp[(show i<k.length by omega)]⟩,by omega,z (i+1),fun j σ' H' p'=>⟨d.length-(i+1),by omega,rfl,l,p'⟩,fun x H' y=>?_⟩
  obtain⟨T,u,v,rfl,hT,rfl,hu,hv⟩:=y;exact ps i u v j σ H (hu d q) (hv k r) f T _ (Z0 hT) Zd
 ·have e:i=d.length:=by omega
  subst e;exact .inl ⟨⟨d,k,q,r,.inl (Qe _)⟩,by omega,fun p t=>pd j σ H f p _ (Z0 t) Zd⟩
theorem ZaW{P}{w}{i o}{ty td}(hP:X.prog=P)(hw:X.w=w)(hi:PE X i ty)(ho:PE X o td):PC X .NotIn i o (Zdv P w ty td):=by
 subst hP;cases hw;exact Zex hi ho
structure Mk0(K:PySem.W.Frag)(C:Addr):Prop where
 makes:PySem.W.makesIn K C=true
 init:PySem.W.findIn K (.ref C) "__init__"=some (some (.builtin "object.__init__"))
 kp:PySem.W.keepIn K (.ref C)=true
structure OwnC(K:PySem.W.Frag)(C:Addr):Prop where
 cl:Cls K C
 ha:PySem.W.findIn K (.ref C) "__class__"=some (some (.builtin "object.__class__"))
 hn:PySem.W.specialIn K (.builtin "object.__class__") "__get__"=some (some (.builtin "getset_descriptor.__get__"))
 htk:PySem.W.takesIn K (.builtin "object.__class__")=some true
 hm:PySem.W.mroIn K C (.type "object")=some true
theorem OwnC.ty{K:PySem.W.Frag}{H:Hp}{a C dx:Addr}{fs:List _}(o:OwnC K C)(e:H a=some (.ins C dx fs)):JO K H (.ref a) (.ref C):= .ins e o.cl o.ha o.hn o.htk o.hm
section
variable{X:Cx}
def Znk(C:Addr):TE:=fun _ H Q=>∀x dx,H x=none->H dx=none->dx≠x->Q (.ref x) (upd (upd H dx (.own x)) x (.ins C dx []))
theorem Zb6{x}{C}{p pos}(M:Mk0 X.K C)(hg:Gl X x)(hm:X.mg x=some (.ref C))(hdb:(x==("__debug__":Str))=false:=by decide):PE X (.Call (.Name x p) [] [] pos) (Znk C):=by
 refine fun _ s σ H Q I h=>Up (Jp I hg hm (PySem.W.callWith_K0 I.kIn M.kp (Va (ZfZ I.kIn M.makes M.init (fun f=>PySem.W.Looks.of_pure (PySem.W.oi_bind f)) ?_))) hdb);have g:((s.heap.push PySem.W.emptyDict).push (PySem.W.instObj C s.heap.objs.size)).get? (s.heap.objs.size+1)=some (PySem.W.instObj C s.heap.objs.size):=by
  have:=Ql (s.heap.push PySem.W.emptyDict) (o:=PySem.W.instObj C s.heap.objs.size) rfl
  simp_all
 refine codeAny_call_builtin PySem.W.oi_plain PySem.W.entry_oi (@PySem.W.check_slot (model X.prog X.w) _ _ _ "object.__init__" "object" "__init__" (.ref (s.heap.objs.size+1)) [] [] _ PySem.W.oi_kind PySem.W.oi_split (show PySem.W.Looks (model X.prog X.w) ((s.heap.push PySem.W.emptyDict).push (PySem.W.instObj C s.heap.objs.size)) (isInstance (.ref (s.heap.objs.size+1)) (.type "object")) _ from(show PySem.W.Looks (model X.prog X.w) ((s.heap.push PySem.W.emptyDict).push (PySem.W.instObj C s.heap.objs.size)) (typeOf (.ref (s.heap.objs.size+1))) (.ref C)from(PySem.W.Looks.ld g).andThen .now).andThen ((PySem.W.makes_of (M:=model X.prog X.w) I.kIn M.makes).top.keeps fun b o e=>Qc _ (Qc _ e))) (PySem.W.oi_args (.ref (s.heap.objs.size+1))) ?_);exact Qg (And.intro rfl ⟨.ref (s.heap.objs.size+1),_,(Inv.made (C:=C) I),rfl,(h (s.heap.objs.size+1) s.heap.objs.size (I.hok.fresh (Nat.le_succ _)) (I.hok.fresh (Qe _)) (Qo (Q7 _)))⟩)
inductive ZnG(K:PySem.W.Frag)(xs:List V)(H:Hp)(Q:VK):Prop
 |mk (x C t b:_) (_:xs=[x,.ref C]) (_:JO K H x t) (_:PySem.W.kitOne K t (.ref C)=some b) (_:Q (.bl b) H)
theorem Za4:CallR X (.builtin "isinstance") (ZnG X.K):=by
 intro _ s σ H _ _ Q I r h;obtain⟨x,C,t,b,rfl,d,e,q⟩:=h;obtain⟨u,_,rfl,c,a⟩:=vals2 r;cases a;exact Zc2 I c d e fun f=>⟨.bl b,H,I.tok f,rfl,q⟩
end
end L2
namespace PySem.W
open PySem PySem.Spec PySem.Calls PyProof.Rows PyProof.V
section
variable{prog:Program}{w:World}{A:Around}{E:Value->Shared->Prop}{s:Shared}{T:String}{r d:Addr}{n:Nat}{P:Nat->Value->Prop}{OK:Heap->Prop}
theorem dcollect{R}(K:KdlSrc prog w T r d n P OK)(hh:A.handled=none)(hok:OK s.heap)(hn:n<=sizeLine)
  (h:∀(h':Heap)(tk:Nat)(acc:Array _),(∀b o,s.heap.get? b=some o->h'.get? b=some o)->s.heap.objs.size<h'.objs.size->ItemsOf P acc n->R acc.toList {s with heap:=h',toks:=tk}):
  wpAny (model prog w) A (collect (.ref r)) R E s:=by
 have j:=K.there _ hok;refine Qa (wpAny_runValue (Ua entry_proto_collect' (Qa (UF (Qg ⟨UD PySem.F.plain_list_iadd _,Ua entry_list_iadd' ?_⟩)))));have key:=kdl_extend (s:={s with heap:=s.heap.push {cls:= .type "list",data:= .seq [].toArray}})
  (R:=fun q t=>∃h' tk a m,q= .ok (.ret (.ref s.heap.objs.size))/\t={s with heap:=h',toks:=tk}/\
   (∀b o,s.heap.get? b=some o->h'.get? b=some o)/\h'.get? s.heap.objs.size=some {cls:= .type "list",dict:=none,data:= .seq a m,slots:=#[]}/\ItemsOf P a n)
  K hh (K.keep _ _ hok fun b _ o e=>Qc _ e) _ (Uo j.1) (Uo j.2) _ 0 (show(s.heap.push _).get? _=some _ from Ql _ rfl)
  (fun h' tk a m l g c=>⟨h',tk,a,m,rfl,rfl,fun b o e=>l b o (Qo (Qh e)) (Qc _ e),g,c⟩) hn
 refine Q2 key (fun fin t x=>?_) fun e t x=>?_
 ·cases fin with
  |done f=>
   obtain⟨h',tk,a,m,e,rfl,l,g,c⟩:=x;cases e;exact Qa (wpAny_load g (Qg (h h' tk a l (Qh g) c)))
  |again c₁=>
   refine⟨x.1,UE x.2 fun q s₂ y=>?_⟩;obtain⟨h',tk,a,m,rfl,rfl,l,g,c⟩:=y;exact Qa (wpAny_load g (Qg (h h' tk a l (Qh g) c)))
 ·simp_all
end
end PySem.W
namespace L2
open PySem PySem.Spec PyProof.Rows
section
variable{prog:Program}{w:World}{K:Type}[DecidableEq K]{knd:KeyKind prog w K}{A:Around}{E:Value->Shared->Prop}{s:Shared}
theorem Zdy{d}{kvs:List (K×Value)}{ns:List _}{Q:Value->Shared->Prop}(hh:A.handled=none)(lo:(d==sysModules)=false)(hD:s.heap.DictOf knd d kvs)(h64:kvs.length<64)
  (hk:∀(i:Nat)(k:K)(x v:Value),kvs[i]?=some (k,x)->knd.is k v=true->∃t,v= .int (ns.getD i 0) t) (hl:ns.length=kvs.length)
  (h:∀(h':Heap)(tk:Nat)(p:Addr)(out:Array _)(e:Nat)(ns':List _),(∀b o,s.heap.get? b=some o->h'.get? b=some o)->s.heap.objs.size<=p->h'.get? p=some (seqObj "list" out e)->IntsAre out.toList ns'->ns'.Perm ns->ns'.Pairwise (·<=·)->Q (.ref p) {s with heap:=h',toks:=tk}):
  wpAny (model prog w) A (call (.builtin "sorted") [.ref d]) Q E s:=by
 obtain⟨ep,D⟩:=hD.dictAt;refine Calls.call_function_entry kind_sorted plain_sorted entry_sorted (args_sorted1 _) (Qa (Qg (Qa (PySem.W.dcollect (PySem.W.kdl_dict (knd:=knd) (kvs:=kvs) (ep:=ep) lo) (by simp[hh]) D (Yh (by omega)) fun F tk l r hsz f=>?_))));have hl1:l.toList.length=kvs.length:=by rw[UR];exact f.1
 refine Qa (wpAny_newList ?_ (Yh (by omega)));have n:(F.push _).get? _=some (seqObj "list" l.toList.toArray 0):=Ql _ rfl;have hI:IntsAre l.toList ns:=by
  have y:∀(q:List Value)(c:List Int),q.length=c.length->(∀(i:Nat) v,q[i]?=some v->∃t,v= .int (c.getD i 0) t)->IntsAre q c:=by
   intro q
   induction q with
   |nil=>intro c hl _;cases c with|nil=>exact .nil|cons _ _=>cases hl
   |cons v q ih=>
    intro c hl z;cases c with
    |nil=>cases hl
    |cons m c=>
     obtain⟨t,rfl⟩:=z 0 v rfl;exact .cons _ _ (ih c (by simpa using hl) fun i v' B=>z (i+1) v' (by simpa using B))
  refine y _ _ (by omega) fun i v z=>?_;obtain⟨k,x,hx,C⟩:=f.2 i v (by simp_all);exact hk i k x v hx C
 refine Qa (Q5 (UJ slot_list_sort ⟨_,n,rfl⟩ entry_list_sort (list_sort_tree n hI (by omega) fun out ns' a1 a2 a3=>⟨_,rfl,?_⟩) (args_list_sort _)));obtain⟨e,he⟩:=sortedHeap_at (out:=out) n;refine Qg ⟨_,rfl,h _ tk F.objs.size out e ns' (fun b o H=>?_) ?_ he a1 a2 a3⟩
 ·have u:=Qh (r b o H)
  rw[sortedHeap_old (Qo u) (by rw[size_push'];exact Uk u)];exact Qc _ (r b o H)
 ·omega
end
section
variable{X:Cx}
theorem ZdF{ns}:∀{us},IntsAre us ns->Vals (ns.map V.int) us:=by
 induction ns with
 |nil=>intro us r;cases r;exact .nil
 |cons k _ d=>
  intro us r;cases r with
  |cons _ t c=>exact .cons ⟨t,rfl⟩ (d c)
inductive rSortedD(xs:List V)(H:Hp)(Q:VK):Prop
 |mk (d:_) (kvs:List (Key×V)) (ns:List Int) (_:xs=[.ref d]) (_:H d=some (.dK kvs)) (_:kvs.map (·.1)=ns.map Sum.inl) (_:ns.length<64) (_:∀p(ns':List Int) H',Same H H'->H' p=some (.lst (ns'.map V.int))->ns'.Perm ns->ns'.Pairwise (·<=·)->Q (.ref p) H')
theorem Za3{k}(hr:Room k X.A):CallR X (.builtin "sorted") rSortedD:=by
 intro _ s σ H xs us Q I r h;obtain⟨d,b,ns,rfl,hd,C,h64,q⟩:=h;obtain⟨u,rfl,rx⟩:=vals1 r;cases rx;obtain⟨z,lo,f,j,dd⟩:=ZhJ I.hok hd;have hvl:=Paired.length j;have hkl:b.length=ns.length:=by have:=UZ List.length C;simpa using this
 have c:f.map (·.1)=ns.map Sum.inl:=by
  rw[<-C];have:∀{b}{f:List (Key×Value)},KV b f->f.map (·.1)=b.map (·.1):=by
   intro b f r
   induction r with
   |nil=>rfl
   |_ h _ ih=>simp_all
  exact this j
 refine Zdy (ns:=ns) hr.hd lo dd (by omega) (fun i k x v hi hv=>?_) (by omega) fun h' tk p B e w kp hp he a1 a2 a3=>?_
 ·have y:(f.map (·.1))[i]?=some k:=by rw[Qx,hi];rfl
  rw[c,Qx]at y;cases hn:ns[i]? with
  |none=>simp_all
  |some m=>
   rw[hn]at y;cases y;rw[Qi,hn];obtain⟨t,e⟩:=Value.isInt_shape hv;exact⟨t,e⟩
 ·have hln:=a2.length_eq
  exact⟨.ref p,_,I.laid (t':=tk) (a:=p) (o:= .lst (w.map V.int)) kp hp ⟨by simp_all,B.toList,e,ZdF a1,he⟩,rfl,q _ w _ (Z0 (I.hok.fresh hp)) Zd a2 a3⟩
def ZcI(td ty tx:TE):TE:=fun σ H Q=>td σ H fun x H1=>∃a,x= .ref a/\IsD H1 a/\ty σ H1 fun y H2=>tx σ H2 fun z H3=>∃kvs k,H3 a=some (.dK kvs)/\y=kV k/\kvs.length<100000/\(∀v,ZD kvs k=some v->Q v H3)/\(ZD kvs k=none->Q z (upd H3 a (.dK (putK kvs k z))))
theorem ZgS{o e f}{td ty tx}{apos cpos}(ho:PE X o td)(he:PE X e ty)(hf:PE X f tx)(m:M2 X o "setdefault" apos e f cpos):PE X (.Call (.Attribute o "setdefault" apos) [e,f] [] cpos) (ZcI td ty tx):=by
 refine fun i s σ H Q I h=>wpAny_Call_method m.base m.few m.line PySem.F.plainAttrs_dict PySem.F.slot_dict_setdefault PySem.F.type_dict_setdefault (thn (ho i s σ H _ I h) fun u s1 xq1=>?_);obtain⟨x,H1,I1,rx,a,ex,d,q1⟩:=xq1;subst ex;obtain rfl:u=Value.ref a:=rx;obtain⟨t1,t2,_⟩:=Zhq I1 d;refine⟨t1,t2,?_⟩;rw[m.trees];refine Calls.callWith_builtin rfl (Calls.evalArgs_plain (UU (thn (he i s1 σ H1 _ I1 q1) fun iv s2⟨y,H2,I2,ry,q2⟩=>
  UU (thn (hf i s2 σ H2 _ I2 q2) fun fv s3⟨z,H3,I3,rz,g,k,hd,ey,hl,q3,q4⟩=>Calls.spliced_nil ?_))))
 subst ey;obtain⟨zz,lo,vs,l,dd⟩:=ZhJ I3.hok hd;refine call_meetsIn PySem.F.slot_dict_setdefault dd.typeIs PySem.F.entry_dict_setdefault (PySem.F.args_dict_setdefault_3 _ _ _) (kt_meets_setdefault (ZQ X.prog X.w) a (ZbI ry) lo fv) ⟨vs,dd,(show vs.length<=sizeLine by rw[<-l.length];exact zz),fun v hv=>?_,fun hn h' t hs=>?_⟩
 ·have j:=l.val k
  rw[hv]at j;cases r:ZD g k with
  |none=>rw[r]at j;exact j.elim
  |some x=>rw[r]at j;exact⟨x,H3,I3.tok _,j,q3 x r⟩
 ·have j:=l.val k
  rw[hn]at j;have r:ZD g k=none:=by
   cases r:ZD g k with
   |none=>rfl
   |some x=>rw[r]at j;exact j.elim
  exact⟨z,_,Zdj I3 (by rw[hd];exact True.intro) hs (show∃q,h'.get? a=some q from let⟨q,_,_,hq,_⟩:=t;⟨q,hq⟩) (ZhK (show(putK g k z).length<=sizeLine from Yh (by have:=ZT g k z;omega)) lo (l.put k rz) t),rz,q4 r⟩
end
end L2
namespace SetT
open PySem PySem.SetTable PySem.Spec PyProof.Rows
def Zoa:Value->Int
 | .int i _=>i
 |_=>0
def byT(w:World):Bool:=w.params.followText "set-order"
def SI(prog:Program)(w:World)(h:Heap)(a:Addr)(ks:List Int):Prop:=
 ∃o es ep t,h.get? a=some o/\o.ExactSet/\o.data= .set es ep t/\JE t es/\Mk t.mask/\es.size*5<t.mask*3/\t.plain=true/\t.led= !byT w/\ElemsOf (intKind prog w) es.toList/\(es.toList.map fun e=>Zoa e.2).Perm ks
variable{prog:Program}{w:World}{A:Around}{E:Value->Shared->Prop}{s:Shared}
theorem SI.at'{h h':Heap}{a:Addr}{ks:List Int}(x:SI prog w h a ks)(k:∀o,h.get? a=some o->h'.get? a=some o):SI prog w h' a ks:=let⟨o,es,ep,t,ho,r⟩:=x;⟨o,es,ep,t,k o ho,r⟩
end SetT
namespace L2
open PySem PySem.Spec PyProof.Rows
theorem ZgP{X}{scope}{cl}{N}{bs}{tg iter elt}{ifs}{pos spos px}{x}{tl}{g gt}{tt}{te}(B:Blk X scope cl N bs)(hc:X.calm=true)
  (hl:PE X iter tl)(hm:Jb tl)(hg:∀C fp s H,PG (Z4 X scope cl C N fp s H) tg g) (ht:∀C fp s H,PTs (Z4 X scope cl C N fp s H) ifs tt) (he:∀C fp s H,PE (Z4 X scope cl C N fp s H) elt te)
  (hgt:PG X (.Name x px) gt) (hsw:swapsWith (.ListComp elt [⟨tg,iter,ifs,0⟩] scope pos) (some (.Name x px)) spos.line X.env=pure true)
  (hs:∀x,foldedSetIterable iter X.env x=pure x:=by intro _;rfl):PS X (.Assign [.Name x px] (.ListComp elt [⟨tg,iter,ifs,0⟩] scope pos) spos) (Zg8 (ZjE X.K bs tl g tt te) gt):=by
 refine fun _ s σ H D I h=>@Zjv X _ cl N bs tg _ _ _ _ _ px x _ g gt tt te B hc (@Y8 X _ _ _ hl) hg ht he hgt hsw hs _ s σ H D I (hm σ H _ _ (fun x c h=>?_) h);obtain⟨a,d,e,n,k,i,j,l,m,o⟩:=h;exact⟨a,e,⟨d,n⟩,Zhl (Q:=fun x c=>gt x σ c D.nx) i (Yh k) j l m fun f σ H q p b=>o f σ H q p _ (Z0 b) Zd⟩
theorem Zax{X}{K}(hK:X.K=K):IxR X (ZfP K):=by
 subst hK;exact Zj
theorem FnOk.or{P}{w}{K}{mg}{base}{CX}{k:Nat}{f:Addr}{fd:FuncData}{ps:List _}{sp sp':Sp}(a:FnOk P w K mg base CX k f fd ps sp)(b:FnOk P w K mg base CX k f fd ps sp'):
  FnOk P w K mg base CX k f fd ps (fun vs H Q E=>sp vs H Q E\/sp' vs H Q E):=
 ⟨fun vs H Q E h=>h.elim (a.len vs H Q E) (b.len vs H Q E),fun A c s H d j vs Q E g i e l h=>h.elim (a.run A c s H d j vs Q E g i e l) (b.run A c s H d j vs Q E g i e l)⟩
theorem Zi3:type_of%(@JH false false):=JH
theorem ZmD:type_of%(@YZ false false):=YZ
abbrev Itw:=ItG false false
abbrev Zoj:=Zft false false
inductive Zix(K:PySem.W.Frag)(x:V)(vs:List V)(H:Hp)(Q:VK):Prop
 |mk (l:_) (xs:_) (k:_) (j:_) (_:x= .ref l) (_:vs=[.int k]) (_:SqL K H l xs) (_:(∀x∈xs,x= .non\/∃i,x= .int i)) (_:xs[j]?=some (.int k)) (_:(∀i:Nat,i<j->xs[i]?≠some (.int k))) (_:Q (.int j) H)
theorem ZaM{x}{u}(h:x= .non\/∃i,x= .int i) (r:RelV x u):(isInt k u=true↔x= .int k)/\∀(A)(s)(t),PySem.SeqAt.EqAt A s u (.int k t) (isInt k u):=by
 rcases h with rfl|⟨i,rfl⟩
 ·cases r
  exact⟨⟨fun z=>(by cases z),fun z=>(by cases z)⟩,fun A s t=>PySem.SeqAt.EqAt.none_int k t⟩
 ·obtain⟨a,rfl⟩:=r
  refine⟨⟨fun z=>by rw[eq_of_beq z],fun z=>by cases z;exact beq_self_eq_true k⟩,fun A s t=>PySem.SeqAt.EqAt.int_int i a k t⟩
theorem ZfW{K}(hK:X.K=K):MtM X "list.index" (Zix K):=by
 subst hK;intro _ s σ H x vs v us Q I G M h;obtain⟨l,D,k,j,rfl,rfl,E,d,B,h2,q⟩:=h;cases G;obtain⟨u,rfl,p⟩:=M.one;obtain⟨t,rfl⟩:=p;obtain⟨f,r,pl,w⟩:=I.list E;have hvl:=r.length;have hjx:=(Qd.mp B).1;have b:∀(i)(g:i<f.length),∃x,D[i]?=some x/\RelV x _:=fun i g=>by
  have e:=Qb (show i<D.length by omega);obtain⟨u,C,p⟩:=r.get e;rw[Qb g]at C;cases C;exact⟨_,e,p⟩
 obtain⟨⟨cls,dd,_,sl⟩,A,hc,n,hd⟩:=pl.isList;subst hc hd;rw[QP]at w;refine UP PySem.F.slot_list_index ⟨_,A,rfl⟩ PySem.F.entry_list_index (PySem.F.args_list_index_2 _ _) (PySem.SeqAt.list_indexAt l _ n dd sl _ (isInt k) j (by simp_all) (by omega) ?_ ?_) ⟨A,fun y L=>?_,⟨.int j,H,I.tok _,⟨_,rfl⟩,q⟩⟩
 ·obtain⟨x,e,c⟩:=b j (by omega)
  rw[B]at e;cases e;exact(ZaM (.inr ⟨_,rfl⟩) c).1.mpr rfl
 ·intro i J m
  obtain⟨x,e,c⟩:=b i J;exact U3.mpr fun z=>h2 i m (by rw[e,(ZaM (d x (Qj e)) c).1.mp z])
 ·obtain⟨i,g⟩:=List.mem_iff_getElem?.mp (show y∈f by simpa using L)
  obtain⟨_,o⟩:=Qd.mp g;obtain⟨x,e,c⟩:=b i _;rw[o]at c;exact(ZaM (d x (Qj e)) c).2 _ _ _
end L2
namespace L2
open PySem PySem.Spec PyProof.Rows
open AutoSeq1 (wpAny_loadPart')
theorem Zee(l)(items:Array _)(n)(dd:Option _)(sl:Array (Option Value))(u:Tok):
  Meets (Builtin.«tuple.__mul__» ⟨[.ref l,.int 1 u],[]⟩) (fun _ R s=>s.heap.get? l=some {cls:= .type "tuple",dict:=dd,data:= .seq items n,slots:=sl}/\R (.ok (.ret (Value.ref l))) s):=
 .of_wp fun _ w A R s h=>by
  obtain⟨_,g,d,_,os⟩:=s;obtain⟨a,h⟩:=h;wp_walk using Ui a;exact⟨_,rfl,h⟩
theorem Zef(l)(items:Array _)(n)(dd:Option _)(sl:Array (Option Value))(u:Tok)(hc1:¬(items.isEmpty||((0:Int)==1))=true):
  Meets (Builtin.«tuple.__mul__» ⟨[.ref l,.int 0 u],[]⟩) (fun _ R s=>s.heap.get? l=some {cls:= .type "tuple",dict:=dd,data:= .seq items n,slots:=sl}/\R (.ok (.ret (Value.ref s.heap.objs.size))) {s with heap:=s.heap.push {cls:=Value.type "tuple",data:=Data.seq #[]},toks:=s.toks}):=
 .of_wp fun _ w A R s h=>by
  obtain⟨_,g,d,_,os⟩:=s;obtain⟨a,h⟩:=h;wp_walk using Ui a
  first|exact⟨_,rfl,h⟩|(rw[if_neg hc1];wp_walk using Ui a;exact⟨_,rfl,h⟩)
section
variable{X:Cx}
inductive rRepA(x:V)(y:V)(H:Hp)(Q:VK):Prop
 |mk (l:_) (k:Nat) (xs:_) (_:x= .ref l) (_:y= .int k) (_:H l=some (.tup xs)) (_:k<100000) (_:xs≠[]) (_:xs.length*k<=100000) (_:∀p H',Same H H'->H' p=some (.tup (List.replicate k xs).flatten)->Q (.ref p) H')
theorem Zi8:OpR X (binaryOp .Mult) rRepA:=by
 intro f s σ H x y v u Q I K e h;obtain⟨l,k,M,rfl,rfl,B,C,j,m,q⟩:=h
 match k,C,m,q,e with
 |0,C,m,q,e=>
  cases K
  obtain⟨t,rfl⟩:=e;obtain⟨c,r,G,_⟩:=I.tuple (SqT.of B);obtain⟨⟨J,g,o,i⟩,d,z,n,A⟩:=id G;simp at z A;subst z A;have w:c.toArray.isEmpty=false:=by
   cases c with
   |nil=>exact absurd (r.nil_iff.mp rfl) j
   |_ a b=>rfl
  refine wpAny_binaryOp_repeat_ref (by decide) ⟨_,d,rfl⟩ (fun L=>typeIs_int L _ t) Yy F.fills_int_mul UQ Jf F.slot_int_index.lookup
   (UP UQ (typeIs_int s _ t) F.entry_int_rmul (F.args_int_rmul_2 _ _) (YJ _ t l c.toArray n g i)
    ⟨d,rfl,⟨_,d,rfl⟩,UP F.slot_tuple_mul ⟨_,d,rfl⟩ F.entry_tuple_mul (F.args_tuple_mul_2 _ _) (Zef l _ n g i t (by rw[w];decide)) ⟨d,?_⟩⟩)
  refine⟨.ref _,_,I.laid (fun b _ q=>Qc _ q) (Qe _) ?_,rfl,q _ _ (Z0 I.fresh) Zd⟩;exact⟨QE _,[],.nil,IsTup.new _ _⟩
 |1,C,m,q,e=>
  cases K
  obtain⟨t,rfl⟩:=e;obtain⟨c,r,G,_⟩:=I.tuple (SqT.of B);obtain⟨⟨J,g,o,i⟩,d,z,n,A⟩:=id G;subst z A;refine wpAny_binaryOp_repeat_ref (T:="tuple") (U:="int") (by decide) ⟨_,d,rfl⟩ (fun L=>typeIs_int L _ t) Yy F.fills_int_mul UQ Jf F.slot_int_index.lookup
   (UP UQ (typeIs_int s _ t) F.entry_int_rmul (F.args_int_rmul_2 _ _) (YJ _ t l c.toArray n g i)
    ⟨d,rfl,⟨_,d,rfl⟩,UP F.slot_tuple_mul ⟨_,d,rfl⟩ F.entry_tuple_mul (F.args_tuple_mul_2 _ _) (Zee l c.toArray n g i t) ⟨d,?_⟩⟩)
  exact⟨.ref l,H,I,rfl,q l H (Same.refl H) (by rw[B];simp)⟩
 |k+2,C,m,q,e=>
  exact ZgY f s σ H _ _ v u Q I K e ⟨l,_,M,rfl,rfl,B,by omega,by omega,j,m,fun p O N _=>q p O N (by assumption)⟩
end
end L2
namespace RX
open PySem PySem.Spec PyProof.Rows
def TrD(h base:Heap)(e:Addr)(cls:Value)(od:Option Addr)(fl:Value):Prop:=
 ∃oe vs T oT ts,h.get? e=some oe/\(oe.cls=cls/\oe.dict=od)/\oe.data= .fields vs/\vs[1]?=some (.ref T)/\base.get? T=none/\T≠e/\h.get? T=some oT/\oT.data= .fields ts/\ts[3]?=some fl
structure Fl(base:Heap)(l:List Env)(e:Addr)(cls:Value)(od:Option Addr)(fl:Value)(h:Heap):Prop where
 stays:base.StaysIn h
 new:base.get? e=none
 frames:h.FunFrames base l
 trace:TrD h base e cls od fl
theorem ZbS(f)(o:Obj):(o.mapFields f).dict=o.dict:=by
 unfold Obj.mapFields;split<;>rfl
section
variable{M:Model}{A:Around}{E:Value->Shared->Prop}{s:Shared}{base:Heap}{env:Env}{outer l:List Env}{L e:Addr}{cls fl:Value}{od:Option Addr}{Q:Unit->Shared->Prop}
theorem entry_at{oe}{vs}{head}{hadNext}
  (hfr:A.frames=some (env::outer))(hl:s.heap.FunFrames base (env::outer))(hf:env.frame=some L)
  (he:s.heap.get? e=some oe)(hkb:base.StaysIn s.heap)(hen:base.get? e=none)(hd:oe.data= .fields vs)(hsz:1<vs.size)
  (h:∀h',Fl base (env::outer) e oe.cls oe.dict (rawInt L) h'->s.heap.UpToSlots h'->Q () {s with heap:=h'}):
  wpAny M A (do let a<-frameOf env;let pl<-entryPlaceOf L hadNext;let b<-EntryCells.newEntry head a .none (rawInt L) .none pl;setField (.ref e) 1 b) Q E s:=by
 have out:e ∉ (env::outer).filterMap _:=fun hm=>by
  obtain⟨_,o,ho,d⟩:=hl.mem hm;rw[he]at ho;injection ho with ho;subst ho;exact d vs hd
 refine Qa (wpAny_frameOf_fun hfr hl hf fun k j=>Qa (wpAny_entryPlaceOf fun pl hpl=>(Qa (UF ?_ (hpl.sizeOk5 _ _ _ _ _)))));have he₁:=(j.2.1 e out).trans he;have n:base.StaysIn _:=fun b o g=>(j.2.1 b fun hm=>by rw[(hl.mem hm).1]at g;cases g).trans (hkb b o g);generalize hot:({cls:= .type _,dict:=none,data:= .fields _}:Obj)=ot;have he₂:=Qc ot he₁;refine wpAny_setField he₂ hd hsz ?_;have hTe:=Uo (Qh he₁);have hd₃:=Obj.data_mapFields hd (·.setIfInBounds 1 (Value.ref k.objs.size));have i:∀b o,b≠e->k.get? b=some o->((k.push ot).update e (Obj.mapFields (·.setIfInBounds 1 (Value.ref k.objs.size)))).get? b=some o:=fun b o hbe l=>by
  rw[QV _ _ (Ne.symm hbe)];exact Qc _ l
 have m:∀b o,s.heap.get? b=some o->(∀vs,o.data≠.fields vs)->b≠e:=fun b o l d q=>by
  simp_all
 refine h _ ⟨fun b o g=>i b o (fun q=>by grind) (n b o g),hen,hl.of_keeps fun b o l d=>?_,?_⟩ fun b o l d=>?_
 ·obtain⟨sl,hs⟩:=j.2.2 b o l
  exact⟨_,i b _ (m b o l d) hs,rfl⟩
 ·exact⟨_,_,k.objs.size,_,_,(Uh (Obj.mapFields (·.setIfInBounds 1 (Value.ref k.objs.size))) he₂ (Obj.isFreed_of_fields hd₃)),⟨Obj.cls_mapFields _ _,ZbS _ _⟩,hd₃,by simp[hsz],n.fresh,hTe,((QV (k.push ot) (Obj.mapFields (·.setIfInBounds 1 (Value.ref k.objs.size))) (Ne.symm hTe)).trans (Ql k (show ot.isFreed=false by rw[<-hot];rfl))),(show ot.data= .fields ([head,.ref L,.none,rawInt L,.none]++(if pl.isEmpty then List.replicate 6 Value.none else pl)).toArray by rw[<-hot]),by rfl⟩
 ·obtain⟨sl,hs⟩:=j.2.2 b o l
  exact⟨sl,i b _ (m b o l d) hs⟩
theorem Ze3{oe}{vs}(hfr:A.frames=some (env::outer))(hl:s.heap.FunFrames base (env::outer))(hf:env.frame=some L)
  (he:s.heap.get? e=some oe)(hkb:base.StaysIn s.heap)(hen:base.get? e=none)(hd:oe.data= .fields vs)(h1:vs[1]?=some .none)
  (h:∀h',Fl base (env::outer) e oe.cls oe.dict (rawInt L) h'->s.heap.UpToSlots h'->Q () {s with heap:=h'}):wpAny M A (noteFrame (.ref e) env) Q E s:=by
 unfold noteFrame;simp[hf];exact Qa (Us he hd h1 (entry_at hfr hl hf he hkb hen hd (Uj.mp h1).1 h))
theorem Zfj(hfr:A.frames=some (env::outer))(hf:env.frame=some L)(x:Fl base (env::outer) e cls od .none s.heap)
  (h:∀h',Fl base (env::outer) e cls od (rawInt L) h'->s.heap.UpToSlots h'->Q () {s with heap:=h'}):wpAny M A (noteFrame (.ref e) env) Q E s:=by
 obtain⟨hkb,hen,hl,oe,vs,T,oT,ts,he,⟨hc,hdd⟩,hd,h1,hnT,hTe,hT,hdT,h3⟩:=x;subst hc hdd;unfold noteFrame;simp[hf];refine Qa (Us he hd h1 (Qa (Us hT hdT h3 ?_)));refine Qa (wpAny_setField hT hdT (Uj.mp h3).1 ?_);have a:∀b,b≠T->(s.heap.update T (Obj.mapFields (·.setIfInBounds 3 Value.none))).get? b=s.heap.get? b:=fun b hb=>QV _ _ (Ne.symm hb);have notT:∀b o,s.heap.get? b=some o->(∀vs,o.data≠.fields vs)->b≠T:=fun b o hb d q=>by
  simp_all
 refine entry_at hfr (hl.of_keeps fun b o hb d=>⟨o,(a b (notT b o hb d)).trans hb,rfl⟩) hf ((a e (Ne.symm hTe)).trans he)
  (fun b o hbo=>(a b fun q=>by grind).trans (hkb b o hbo)) hen hd (Uj.mp h1).1
  fun h' x1 x2=>h h' x1 fun b o hb d=>x2 b o ((a b (notT b o hb d)).trans hb) d
theorem Jt(x:Fl base l e cls od fl s.heap)
  (h:∀h',Fl base l e cls od .none h'->s.heap.UpToSlots h'->Q () {s with heap:=h'}):wpAny M A (setFlight (.ref e) none) Q E s:=by
 obtain⟨hkb,hen,hl,oe,vs,T,oT,ts,he,hcd,hd,h1,hnT,m,hT,k,h3⟩:=x;have g:=(Uj.mp h3).1;have a:∀b,b≠T->(s.heap.update T (Obj.mapFields (·.setIfInBounds 3 (none.elim Value.none fun f=>rawInt f)))).get? b=s.heap.get? b:=
  fun b j=>QV _ _ (Ne.symm j)
 have i:∀b o,s.heap.get? b=some o->(∀vs,o.data≠.fields vs)->b≠T:=fun b o j d q=>by
  simp_all
 refine Qa (Us he hd h1 (wpAny_setField hT k g (h _ ⟨fun b o hbo=>(a b fun q=>by grind).trans (hkb b o hbo),hen,
  hl.of_keeps fun b o j d=>⟨o,(a b (i b o j d)).trans j,rfl⟩,?_⟩ fun b o j d=>⟨_,(a b (i b o j d)).trans j⟩)))
 exact⟨oe,vs,T,_,_,(a e (Ne.symm m)).trans he,hcd,hd,h1,hnT,m,Uh _ hT (Obj.isFreed_of_fields (Obj.data_mapFields k _)),Obj.data_mapFields k _,by simp[g]⟩
theorem Fl.tail(x:Fl base (env::outer) e cls od fl s.heap):Fl base outer e cls od fl s.heap:=
 let⟨c,b,⟨_,_,d⟩,a⟩:=x
 ⟨c,b,d,a⟩
theorem ZdG{oe}{vs}(hfr:A.frames=some (env::outer))(hl:s.heap.FunFrames base (env::outer))(hf:env.frame=some L)
  (he:s.heap.get? e=some oe)(hkb:base.StaysIn s.heap)(hen:base.get? e=none)(hd:oe.data= .fields vs)(h1:vs[1]?=some .none)
  (h:∀h',Fl base outer e oe.cls oe.dict .none h'->s.heap.UpToSlots h'->Q () {s with heap:=h'}):wpAny M A (leaving env (.ref e)) Q E s:=by
 refine Qa (Ze3 hfr hl hf he hkb hen hd h1 fun _ c f=>Jt c fun a b d=>h _ (Fl.tail (s:={s with heap:=a}) b) (f.trans d))
theorem Zhk(hfr:A.frames=some (env::outer))(hf:env.frame=some L)(x:Fl base (env::outer) e cls od .none s.heap)
  (h:∀h',Fl base outer e cls od .none h'->s.heap.UpToSlots h'->Q () {s with heap:=h'}):wpAny M A (leaving env (.ref e)) Q E s:=by
 refine Qa (Zfj hfr hf x fun _ c f=>Jt c fun a b d=>h _ (Fl.tail (s:={s with heap:=a}) b) (f.trans d))
end
end RX
namespace RX
open PySem PySem.Spec PyProof.Rows L2
def CXe(P:Program)(w:World):CXT:=fun outer H s E ev s'=>
 ∃e cls od H' B,ev= .ref e/\s'.os=s.os/\AllBare s'.gens/\Un (frs outer) [] H H' s.heap s'.heap/\HOk P w H' s'.heap/\Fl B outer e cls od .none s'.heap/\
  (∀b o,s.heap.get? b=some o->b ∉ frs outer->∃o',B.get? b=some o')/\(∀b u,H' b=some u->∃o,B.get? b=some o)/\E cls od H'
theorem YN{B h:Heap}{b:Addr}{o o':Obj}(k:B.StaysIn h)(e:B.get? b=some o')(q:h.get? b=some o):B.get? b=some o:=by
 have:=k b o' e;rw[q]at this;cases this;exact e
theorem ZaN{P:Program}{w:World}{H:Hp}{B h h':Heap}(x:HOk P w H h)(k:∀b u,H b=some u->∃o,B.get? b=some o) (s1:B.StaysIn h) (s2:B.StaysIn h'):HOk P w H h':=fun a u e=>by
 refine(x a u e).stay (fun b v hb q=>?_) (fun _ q=>q) fun _ _ q=>q;have go:∀z,H b=some z->h'.get? b=some v:=fun z r=>by
  obtain⟨o,ho⟩:=k b z r;exact s2 b v (YN s1 ho q)
 rcases hb with rfl|hb
 ·exact go u e
 ·exact go _ hb
section
variable{X:Cx}{pins:List (Addr×Obj)}{σ:L2.St}{H:Hp}{s s':Shared}{E E':XK}{ev:Value}{M:Model}{EE:Value->Shared->Prop}
theorem ZaI(hst:X.stack=X.env::X.outer)(hf:X.env.frame=some X.env.locals){b:Addr}(h:b∈frs X.stack):b=X.env.locals\/b∈frs X.outer:=by
 rw[hst]at h;unfold frs at h;rw[UH,hf]at h;exact Qn.mp h
theorem Jn(hst:X.stack=X.env::X.outer){b:Addr}(h:b∈frs X.outer):b∈frs X.stack:=by
 rw[hst];unfold frs at h⊢;rw[UH];split
 ·exact h
 ·exact Uc _ h
theorem Zi7(hst:X.stack=X.env::X.outer)(hf:X.env.frame=some X.env.locals)(hex:X.ex=[])(I:Inv X pins σ H s)(x:CXe X.prog X.w X.stack H s E ev s')
  (hE:∀c d H',E c d H'->E' c d H'):wpAny M X.A (leaving X.env ev) (fun _ s''=>CXe X.prog X.w X.outer X.H₀ X.s₀ E' ev s'') EE s':=by
 obtain⟨e,cls,od,H',B,rfl,os,bare,un,hok,fl,k1,k2,q⟩:=x;have noA:∀b:Addr,b ∉ X.ex:=fun b z=>by rw[hex]at z;cases z
 have fl':Fl B (X.env::X.outer) e cls od .none s'.heap:=by rw[<-hst];exact fl
 refine Zhk (by rw[<-hst];exact I.ok.frames) hf fl' fun h' f u=>⟨e,cls,od,H',B,rfl,os.trans I.os,bare,?_,ZaN hok k2 fl.stays f.stays,f,?_,k2,hE _ _ _ q⟩
 ·have nL:∀b o,X.s₀.heap.get? b=some o->b≠X.env.locals:=fun b o e=>Qo (Qs (Qh e) I.ok.above)
  have out:∀b o,X.s₀.heap.get? b=some o->b ∉ frs X.outer->b ∉ frs X.stack:=fun b o e n z=>(ZaI hst hf z).elim (nL b o e) n;have slot:∀b o,X.s₀.heap.get? b=some o->X.H₀ b=none->b∈frs X.outer->∃sl,h'.get? b=some {o with slots:=sl}:=fun b o e n hb=>by
   obtain⟨sl,e1⟩:=I.base.slot b o e n hb (noA b);obtain⟨sl2,e2⟩:=un.slot b _ e1 (I.base.free b o e n (noA b)) (Jn hst hb) (by simp);obtain⟨_,o3,ho3,hnf⟩:=fl.frames.mem (Jn hst hb);rw[e2]at ho3;cases ho3;obtain⟨sl3,e3⟩:=u b _ e2 hnf;exact⟨sl3,e3⟩
  have keep:∀b o,X.s₀.heap.get? b=some o->X.H₀ b=none->b ∉ frs X.outer->h'.get? b=some o:=fun b o e n hb=>by
   have e1:=I.base.keep b o e n hb (noA b);have e2:=un.keep b o e1 (I.base.free b o e n (noA b)) (out b o e hb) (by simp);obtain⟨o',h3⟩:=k1 b o e1 (out b o e hb);exact f.stays b o (YN fl.stays h3 e2)
  refine⟨fun b o e n hb _=>keep b o e n hb,fun b o e n hb _=>slot b o e n hb,fun b o e n _=>?_,fun b o e _=>?_,fun b xs e=>un.tups b xs (I.base.tups b xs e),fun b o xs e=>un.frzs b o xs (I.base.frzs b o xs e),fun b ps e=>?_⟩
  ·obtain⟨o',e1⟩:=I.base.there b o e (noA b)
   exact un.free b o' e1 (I.base.free b o e n (noA b)) (by simp)
  ·by_cases hb:b∈frs X.outer
   ·obtain⟨sl,z⟩:=slot b o e (I.ok.frf b hb) hb
    exact⟨_,z⟩
   ·obtain⟨o',e1⟩:=I.base.there b o e (noA b)
    obtain⟨o2,h2⟩:=k1 b o' e1 (out b o e hb);exact⟨o2,f.stays b o2 h2⟩
  ·obtain⟨m1,e1⟩:=I.base.tbls b ps e
   obtain⟨m2,e2⟩:=un.tbls b _ e1;exact⟨m1++m2,by rw[e2,Array.append_assoc]⟩
 ·intro b o e hb
  obtain⟨o',e1⟩:=I.base.there b o e (noA b);exact k1 b o' e1 fun z=>(ZaI hst hf z).elim (Qo (Qs (Qh e) I.ok.above)) hb
end
theorem ZlI{P:Program}{w:World}{K:PySem.W.Frag}{mg:Str->Option Value}{base:Heap}{N:List Str}{qual:Str}{scope:Scope}{f:Addr}{cd:Value}{A:Around}{outer:List Env}{s:Shared}{H:Hp}{E E':XK}
  (hE:∀c d H',E' c d H'->E c d H'):Zah (CXe P w) (Yg (CXe P w) P w K mg base N qual scope f cd A outer s H E) E':=
 fun _ _ _ _ _ _ I x=>Zi7 (X:=Yg (CXe P w) P w K mg base N qual scope f cd A outer s H E) rfl rfl rfl I x hE
end RX
namespace RX
open PySem PySem.Spec PyProof.Rows L2 PySem.W
open Builtin Builtin.ObjectAttr
abbrev ZeO:List Value:=[.type "ValueError",.type "Exception",.type "BaseException",.type "object"]
def Zem(e:DictEntry):Bool:=match e.key with| .str _ _=>true|_=>false
def Zg1(K:Frag)(C D:Addr):Bool:=match K.lookup C,K.lookup D with
 |some ⟨c,_,.cls cd,sl⟩,some ⟨_,_,.cls dd,_⟩=>c== .type "type"&&cd.mro== .ref C:: .ref D::ZeO&& !cd.hasDel&&cd.hasDict&&sl.toList.length==6&&(sl.toList[4]?).join==some (.builtin "ValueError.__new__")&&
   (match K.lookup dd.ns with|some ⟨_,_,.dict es _,_⟩=>es.toList.all Zem&&(nsFind es "__init__").isNone|_=>false)
 |_,_=>false
theorem Zel{es}(h:es.toList.all Zem=true):StrKeys es:=by
 intro e a;have q:=List.all_eq_true.mp h e (by simpa using a);unfold Zem at q
 grind
def ClsAt(h:Heap)(C D:Addr):Prop:=OwnTail h ZeO (.ref D::ZeO)/\∃nm q N bs sn sub ab col dd k0 k1 k2 k3 k5,h.get? C=some (excClassObj nm q C N bs (.ref D::ZeO) true sn sub ab col dd k0 k1 k2 k3 k5 "ValueError.__new__")
theorem Six{α}:∀{l:List α},l.length=6->∃a b c d e f,l=[a,b,c,d,e,f]
 |[a,b,c,d,e,f],_=>⟨a,b,c,d,e,f,rfl⟩
theorem ZbU{K}{h}{C D}(X:K.In h)(e:Zg1 K C D=true):ClsAt h C D:=by
 unfold Zg1 at e;split at e
 ·rename_i c _ f s _ _ _ _ j n
  simp only[Ux,Bool.not_eq_true',Ve]at e;obtain⟨⟨⟨⟨⟨⟨i,m⟩,q⟩,k⟩,p⟩,d⟩,a⟩:=e;split at a
  ·rename_i _ _ r o _ t
   rw[Ux]at a;refine⟨.own (X _ _ n) ⟨_,r,o,X _ _ t,rfl,Zel a.1,fun _=>rfl⟩ (by simpa using a.2) .base,?_⟩;obtain⟨_,_,_,_,_,_,_,sub,_,_,_⟩:=f;subst i m q k;obtain⟨l⟩:=s
   obtain⟨_,_,_,_,g,_,rfl⟩:=Six (l:=l) p;have b:g=some (.builtin "ValueError.__new__"):=by simpa using d
   subst b;exact⟨_,_,_,_,_,_,_,_,_,_,_,_,_,_,X _ _ j⟩
  ·cases a
 ·cases e
theorem ClsAt.keeps{h h':Heap}{C D:Addr}(x:ClsAt h C D)(k:∀b o,h.get? b=some o->h'.get? b=some o):ClsAt h' C D:=by
 obtain⟨T,nm,q,N,bs,sn,sub,ab,col,dd,k0,k1,k2,k3,k5,hC⟩:=x;exact⟨T.keeps k,_,_,_,_,_,_,_,_,_,_,_,_,_,_,k _ _ hC⟩
section
variable{prog:Program}{w:World}{A:Around}{E:Value->Shared->Prop}{h:Heap}{g:Array GenState}{d:Drawn}{t:Nat}{os:OsState}{C D:Addr}
abbrev Y3(rest:List Value):Obj:={cls:= .type "tuple",data:= .seq rest.toArray}
abbrev Zes(t:Addr):Array Value:=#[.ref t,.none,.none,.none,.bool false,.none]
abbrev Zcd(C t:Addr):Obj:={cls:= .ref C,data:= .fields (Zes t)}
theorem Zbs{rest}{fI}{Q}(hc:ClsAt h C D)(hi:Looks (model prog w) h (typeLookup (.ref C) "__init__") (some (.ref fI)))
  (hb:∀self,Looks (model prog w) h (bindSpecial (.ref fI) self) (.ref fI,[self]))
  (hq:wpAny (model prog w) A (call (.ref fI) (.ref (h.objs.size+1)::rest)) (fun r s'=>r= .none/\Q (.done (.ret (.ref (h.objs.size+1)))) s') E
   ⟨(h.push (Y3 rest)).push (Zcd C h.objs.size),g,d,t,os⟩) (hrest:rest.length<=sizeLine):
  wpAny (model prog w) A (Builtin.«type.__call__» ⟨.ref C::rest,[]⟩) Q E ⟨h,g,d,t,os⟩:=by
 obtain⟨T,nm,q,N,bs,sn,sub,ab,col,dd,k0,k1,k2,k3,k5,a⟩:=hc;have F:=PySem.F.excBase_ValueError
 repeat (first|with_reducible refine wpAny_loadPart_at a ?_|with_reducible refine wpAny_madeBy_exc a ?_|wp_step)
 refine codeAny_call_builtin_code (Code.quiet_builtin _ F.quiet) (wpAny_check_new_subT F T a (codeAny_exc_new_subT F T a ?_ hrest));have k:∀b o,h.get? b=some o->((h.push (Y3 rest)).push (Zcd C h.objs.size)).get? b=some o:=fun b o e=>Qc _ (Qc _ e)
 repeat (first|with_reducible refine wpAny_loadPart_at hget ?_|(with_reducible refine wpAny_isSubtype_exc (Qc {cls:= .ref C,data:= .fields #[.ref h.objs.size,.none,.none,.none,.bool false,.none]} (Qc {cls:= .type "tuple",data:= .seq rest.toArray} a)) ?_)|wp_step)
 refine(hi.keeps k).here (s:=⟨(h.push (Y3 rest)).push (Zcd C h.objs.size),g,d,t,os⟩) (Q5 (Qa (((hb (.ref (h.objs.size+1))).keeps k).here (s:=⟨(h.push (Y3 rest)).push (Zcd C h.objs.size),g,d,t,os⟩) (Qa (Q2 hq (fun r s' hr=>?_) fun _ _ x=>x)))));obtain⟨rfl,hQ⟩:=hr
 wp_walk
 exact hQ
theorem Zcl{rest}{fI}{Q}(hc:ClsAt h C D)(hi:Looks (model prog w) h (typeLookup (.ref C) "__init__") (some (.ref fI)))
  (hb:∀self,Looks (model prog w) h (bindSpecial (.ref fI) self) (.ref fI,[self]))
  (hq:wpAny (model prog w) (A.under (.builtin "type.__call__" ⟨.ref C::rest,[]⟩)) (call (.ref fI) (.ref (h.objs.size+1)::rest)) (fun r s'=>r= .none/\Q (.ref (h.objs.size+1)) s') E
   ⟨(h.push (Y3 rest)).push (Zcd C h.objs.size),g,d,t,os⟩) (hrest:rest.length<=sizeLine):
  wpAny (model prog w) A (call (.ref C) rest) Q E ⟨h,g,d,t,os⟩:=by
 obtain⟨T,_,q,N,_,_,sub,_,_,_,_,_,_,_,_,a⟩:=id hc;have _:=tc_lookup;have _:=tc_bind (.ref C);refine Va (codeAny_of_tree ?_)
 repeat (any_goals (first|assumption|with_reducible refine wpAny_loadPart_at a ?_|wp_step))
 exact⟨rfl,codeAny_call_builtin_at (Code.quiet_builtin _ (by decide+kernel)) entry_typeCall (wpAny_check_type_call_sub a (Zbs hc hi hb hq hrest))⟩
end
section
variable{prog:Program}{w:World}{A:Around}{E:Value->Shared->Prop}{K:Frag}{C D x:Addr}{s:Shared}
theorem Ziq{vs}{name}{v}{Q}(X:K.In s.heap)(hc:Zg1 K C D=true)(hs:findIn K (.ref C) "__setattr__"=some (some (.builtin "object.__setattr__")))(ha:findIn K (.ref C) name=some none)
  (hx:s.heap.get? x=some ⟨.ref C,none,.fields vs,#[]⟩)
  (hq:∀h' tk,h'.get? x=some ⟨.ref C,some s.heap.objs.size,.fields vs,#[]⟩->h'.Ns1 s.heap.objs.size (fun y=>if y=name then some v else none)->(∀b o,b≠x->s.heap.get? b=some o->h'.get? b=some o)->Q () {s with heap:=h',toks:=tk}):
  wpAny (model prog w) A (setAttr (.ref x) name v) Q E s:=by
 have n:=PySem.F.store_ValueError;have I:InstAt _ x _ C none:=⟨hx,rfl,rfl,trivial⟩;refine set_plain X I hs ?_;obtain⟨T,nm,q,N,bs,sn,sub,ab,col,dd,k0,k1,k2,k3,k5,hC⟩:=ZbU X hc;obtain⟨h,g,d,t,os⟩:=s;have hm:Looks (model prog w) h (mroOf (.ref C)) _:=((Looks.ld hC).andThen .now).andThen .now;have z:Looks _ h (isInstance (.ref x) (.type "object")) _:=I.type.andThen (by
  unfold isSubtype;exact hm.andThen .now)
 refine codeAny_call_builtin n.slot.plain n.entry (@check_slot (model prog w) _ _ ⟨h,g,d,t+1,os⟩ "object.__setattr__" "object" "__setattr__" (.ref x) [.str name t,v] [] _ n.kind n.split z (n.args (.ref x) (.str name t) v) ?_);rw[osa_eq,refuse_eq];refine Qa (Qa (I.type.here (s:=⟨h,g,d,t+1,os⟩) (Qa (hm.here (s:=⟨h,g,d,t+1,os⟩) ?_))));rw[refuseLoop_ref,refuseLoop_ref,n.passes];refine Qg (Qa (I.type.here (s:=⟨h,g,d,t+1,os⟩) (Qa ((looks_findIn X ha).here (s:=⟨h,g,d,t+1,os⟩) (Qa (Qg ?_))))));have G:(h.push {cls:= .type "dict",data:= .dict #[]}).get? x=some ⟨.ref C,none,.fields vs,#[]⟩:=Qc _ hx;have p:=Qo (Qh hx);refine Qa (Qg (Qa (Qa (wpAny_loadPart hx (Qa (Qa (wpAny_load hC (Qg (Qa (wpAny_alloc' (Qa (wpAny_update' G (Qg ?_)))))))))))));have hnd:((h.push {cls:= .type "dict",data:= .dict #[]}).update x fun o=>{cls:=o.cls,dict:=some h.objs.size,data:=o.data,slots:=o.slots}).Ns h.objs.size (fun _=>none):=
  ⟨_,#[],_,(show((h.push {cls:= .type "dict",data:= .dict #[]}).update x fun o=>{cls:=o.cls,dict:=some h.objs.size,data:=o.data,slots:=o.slots}).get? h.objs.size
   =some {cls:= .type "dict",data:= .dict #[]}from(Heap.get?_update_ne _ _ _ _ p.symm).trans (Heap.get?_push_at rfl rfl)),rfl,fun e he=>absurd he (by simp),fun _=>rfl⟩
 refine Qa (Qg (Qa (wpAny_nsSet1 (Heap.Ns1.of_empty hnd) fun h' u hs=>?_)));obtain⟨oD,esD,epD,hoD,hdD,hcD⟩:=u.count (PySem.Within.cons name v PySem.Within.nil);refine Qa (wpAny_lookBehind hoD (by rw[hdD];exact pastItsLine_dict (QM hcD (by simp_all))) (Qg (hq h' _ ?_ u fun b o hb e=>?_)))
 ·exact(hs.2 x p).trans (Uh _ G rfl)
 ·exact(hs.2 b (Qo (Qh e))).trans ((Heap.get?_update_ne _ _ _ _ hb).trans (Qc _ e))
end
end RX
namespace RX
open PySem PySem.Spec PyProof.Rows L2 PySem.W
def XV(C:Addr)(od:Option Addr)(fv:Array Value)(e:Addr):HO:= .ext fun h=>h.get? e=some ⟨.ref C,od,.fields fv,#[]⟩
theorem XV.ok{P}{w}{H}{h}{C e}{od}{fv}(x:h.get? e=some ⟨.ref C,od,.fields fv,#[]⟩):ObjOk P w H h e (XV C od fv e):=
 ⟨x,⟨_,x⟩,fun _ _ p k=>k _ p⟩
theorem XV.get{P}{w}{H}{h}{C e}{od}{fv}(x:HOk P w H h)(q:H e=some (XV C od fv e)):h.get? e=some ⟨.ref C,od,.fields fv,#[]⟩:=(x e _ q).1
structure XCl(K:Frag)(C D:Addr):Prop where
 cls:Zg1 K C D=true
 sa:findIn K (.ref C) "__setattr__"=some (some (.builtin "object.__setattr__"))
 kp:keepIn K (.ref C)=true
def Zl4(K:Frag)(ta tv:TE)(f:Str):TS:=fun D σ H=>tv σ H fun y H1=>ta σ H1 fun x H2=>∃e C Dd fv,x= .ref e/\H2 e=some (XV C none fv e)/\XCl K C Dd/\findIn K (.ref C) f=some none/\
 ∀dx,H2 dx=none->dx≠e->D.nx σ (upd (upd H2 dx (.xd [(f,y)])) e (XV C (some dx) fv e))
section
variable{X:Cx}{o value:Expr}{f:Str}{pos pos':Pos}{ta tv:TE}
theorem ZeZ(ha:PE X o ta)(hv:PE X value tv)(hs:swapsWith value (some (.Attribute o f pos')) pos.line X.env=pure false):PS X (.Assign [.Attribute o f pos'] value pos) (Zl4 X.K ta tv f):=by
 refine fun k s σ H D I h=>plainObj_wpAny_Assign_Attribute (thn (hv k s σ H _ I h) fun u s1⟨y,H1,I1,ry,q⟩=>thn (ha k s1 σ H1 _ I1 q) fun ov l xq1=>?_) hs;obtain⟨x,p,I2,rx,e,C,Dd,fv,ex,ea,c,n,q2⟩:=xq1;subst ex;obtain rfl:ov=Value.ref e:=rx;have hx:=XV.get I2.hok ea;have hn:=I2.hok.fresh (Qe _);refine Ziq I2.kIn c.cls c.sa n hx fun h' tk g1 g2 g3=>?_;have i:∀b v,p b=some v->(∀φ,v≠.ext φ)->b≠e:=fun b v r nv z=>by rw[z,ea]at r;exact nv _ (Option.some.inj r).symm
 have d:∀b v,p b=some v->b≠l.heap.objs.size:=fun b v r z=>by rw[z,hn]at r;cases r
 have m:∀b,p b=none->b≠e:=fun b r z=>by rw[z,ea]at r;cases r
 have a:∀b,b≠e->b≠l.heap.objs.size->upd (upd p l.heap.objs.size (.xd [(f,y)])) e (XV C (some l.heap.objs.size) fv e) b=p b:=fun b h1 h2=>by rw[Zi h1,Zi h2]
 refine⟨σ,_,I2.un (H':=upd (upd p l.heap.objs.size (.xd [(f,y)])) e (XV C (some l.heap.objs.size) fv e)) (h':=h') (t':=tk) ⟨?_,?_,?_,?_,?_,?_,?_⟩ fun b v r=>?_,q2 _ hn (Uo (Qh hx))⟩
 ·exact fun b j r n _ _=>g3 b j (m b n) r
 ·exact fun b j r n _ _=>⟨j.slots,g3 b j (m b n) r⟩
 ·exact fun b j r n _=>by rw[a b (m b n) (Qo (Qh r))];exact n
 ·grind
 ·exact fun b xs r=>by rw[a b (i b _ r fun _=>by simp) (d b _ r)];exact r
 ·exact fun b j xs r=>by rw[a b (i b _ r fun _=>by simp) (d b _ r)];exact r
 ·exact fun b ps r=>⟨#[],by rw[a b (i b _ r fun _=>by simp) (d b _ r),r];simp⟩
 ·by_cases z:b=e
  ·subst z;rw[Zd]at r;cases r;exact XV.ok g1
  ·by_cases z2:b=l.heap.objs.size
   ·subst z2
    rw[Zi z,Zd]at r;cases r;refine⟨_,g2,fun g=>?_⟩;by_cases w:g=f
    ·subst w
     rw[if_pos rfl,List.lookup_cons_self];exact ry
    ·rw[if_neg w,show List.lookup g [(f,y)]=none from by unfold List.lookup;rw[U6.mpr w];rfl];trivial
   ·rw[a b z z2]at r
    refine(I2.hok b v r).stay (fun c j hc q=>g3 c j ?_ q) (fun c q=>?_) fun c xs q=>?_
    ·grind
    ·rw[a c (i c _ q fun _=>by simp) (d c _ q)];exact q
    ·rw[a c (i c _ q fun _=>by simp) (d c _ q)];exact q
end
section
variable{M:Model}{A:Around}{E:Value->Shared->Prop}{s:Shared}{env:Env}{C D:Addr}{Q:Flow->Shared->Prop}
theorem Zet{x}(hh:A.handled=none)
  (h:wpAny M A x (fun v s₁=>E3 fun e t od=>v= .ref e/\ClsAt s₁.heap C D/\s₁.heap.get? e=some {cls:= .ref C,dict:=od,data:= .fields #[.ref t,.none,.none,.none,.bool false,.none]}/\E (.ref e) s₁) E s):wpAny M A (raiseStmt env (some x) none) Q E s:=by
 refine Qa (Q2 h (fun v s₁ b=>?_) fun _ _ x=>x);obtain⟨e,t,od,rfl,⟨T,_,q,N,_,_,sub,_,_,_,_,_,_,_,_,a⟩,c,f⟩:=b;obtain⟨_,g,d,_,os⟩:=s₁
 repeat (first|with_reducible refine wpAny_loadPart_at c ?_|with_reducible refine wpAny_loadPart_at a ?_|(with_reducible refine wpAny_isSubtype_exc a ?_)|wp_step)
 exact wpAny_raiseNew_none hh f
theorem ZeC{prog}{w}{ex}{pos}(hh:A.handled=none)
  (h:wpAny (model prog w) A (eval ex env) (fun v s₁=>E3 fun e t od=>v= .ref e/\ClsAt s₁.heap C D/\s₁.heap.get? e=some {cls:= .ref C,dict:=od,data:= .fields #[.ref t,.none,.none,.none,.bool false,.none]}/\E (.ref e) s₁) E s):
  wpAny (model prog w) A (exec (.Raise (some ex) none pos) env) Q E s:=by
 first
  |exact Qa (wpAny_standAt (Zet hh (Qa (Q2 h (fun v _ a=>Qa (wpAny_standAt (Qg a))) fun _ _ x=>x))))
  |omega
end
theorem Zjz{P}{w}{H}{h}{a}{o}(x:ObjOk P w H h a o):∃u,h.get? a=some u:=by
 cases o with
 |lst d=>obtain⟨_,_,_,_,e⟩:=x;exact⟨_,e⟩
 |tup d=>obtain⟨_,_,_,o,e,_⟩:=x;exact⟨_,e⟩
 |dK b=>obtain⟨_,_,_,_,o,_,_,e,_⟩:=x;exact⟨_,e⟩
 |dT b=>obtain⟨_,_,_,_,o,_,_,e,_⟩:=x;exact⟨_,e⟩
 |set S n=>obtain⟨o,_,_,_,e,_⟩:=x;exact⟨_,e⟩
 |ins C _ c=>obtain⟨_,_,_,e,_⟩:=x;exact⟨_,e⟩
 |own y=>exact x
 |xd c=>obtain⟨_,⟨_,_,_,e,_⟩,_⟩:=x;exact⟨_,e⟩
 |rng lo _=>obtain⟨_,_,_,e⟩:=x;exact⟨_,e⟩
 |frz _ u=>obtain⟨e,_⟩:=x;exact⟨_,e⟩
 |tbl _=>exact⟨_,x⟩
 |met f y=>exact⟨_,x⟩
 |_ φ=>obtain⟨_,e,_⟩:=x;exact e
def Zds(H:Hp)(e:Addr):Hp:=fun b=>if b=e then none else H b
theorem Jd{H}{e b}(h:b≠e):Zds H e b=H b:=by unfold Zds;rw[if_neg h]
theorem Za9{H}{e}:Zds H e e=none:=by unfold Zds;rw[if_pos rfl]
section
variable{X:Cx}{pins:List (Addr×Obj)}{σ:L2.St}{H:Hp}{s:Shared}
theorem Zhs{e:Addr}(I:L2.Inv X pins σ H s){φ:Heap->Prop}(he:H e=some (.ext φ)):L2.Inv X pins σ (Zds H e) s:=by
 have a:∀b,H b=none->Zds H e b=none:=fun b q=>by unfold Zds;simp_all
 have f:∀b v,H b=some v->(∀φ,v≠.ext φ)->b≠e:=fun b v r _ z=>by grind
 refine⟨I.ok,I.os,I.bare,⟨I.base.keep,I.base.slot,fun b o q n j=>a b (I.base.free b o q n j),I.base.there,fun b g q=>?_,fun b o g q=>?_,fun b i q=>?_⟩,I.loc,I.cell,a _ I.free,fun x c q=>a _ (I.freeC x c q),fun p h=>?_,fun b u q=>?_,I.len⟩
 ·have r:=I.base.tups b g q
  rw[Jd (f b _ r fun _=>by simp)];exact r
 ·have r:=I.base.frzs b o g q
  rw[Jd (f b _ r fun _=>by simp)];exact r
 ·obtain⟨m,r⟩:=I.base.tbls b i q
  exact⟨m,by rw[Jd (f b _ r fun _=>by simp)];exact r⟩
 ·obtain⟨_,n,r⟩:=I.pin p h
  simp_all
 ·rw[Jd (show b≠e from fun z=>by rw[z,Za9]at q;cases q)]at q
  refine(I.hok b u q).stay (fun _ _ _ z=>z) (fun c z=>?_) fun c g z=>?_
  ·rw[Jd (f c _ z fun _=>by simp)];exact z
  ·rw[Jd (f c _ z fun _=>by simp)];exact z
theorem Zdt{outer:List _}{H₀ H':Hp}{h₀ h h' B:Heap}(un:Un (frs outer) [] H₀ H' h₀ h)(s1:B.StaysIn h)(s2:B.StaysIn h')(k1:∀b o,h₀.get? b=some o->b ∉ frs outer->∃o',B.get? b=some o')
  (frf:∀b∈frs outer,H₀ b=none) (nf:∀b∈frs outer,∀o,h.get? b=some o->∀vs,o.data≠.fields vs) (u:h.UpToSlots h'):Un (frs outer) [] H₀ H' h₀ h':=by
 have c:∀b o,h₀.get? b=some o->H₀ b=none->b∈frs _->∃f,h'.get? b=some {o with slots:=f}:=fun b o e n a=>by
  obtain⟨f,g⟩:=un.slot b o e n a (by simp);obtain⟨_,i⟩:=u b _ g (nf b a _ g);exact⟨_,i⟩
 refine⟨fun b o e n a _=>?_,fun b o e n a _=>c b o e n a,un.free,fun b o e _=>?_,un.tups,un.frzs,un.tbls⟩
 ·obtain⟨o',d⟩:=k1 b o e a
  exact s2 b o (YN s1 d (un.keep b o e n a (by simp)))
 ·by_cases a:b∈frs outer
  ·grind
  ·obtain⟨o',d⟩:=k1 b o e a
   exact⟨o',s2 b o' d⟩
theorem ZcP{M}{EE:Value->Shared->Prop}{E:XK}{e C t}{od:Option _}(hst:X.stack=X.env::X.outer)(hf:X.env.frame=some X.env.locals)(hex:X.ex=[])(I:L2.Inv X pins σ H s)
  (hn:X.s₀.heap.get? e=none)(he:s.heap.get? e=some {cls:= .ref C,dict:=od,data:= .fields #[.ref t,.none,.none,.none,.bool false,.none]})(hu:H e=none)(q:E (.ref C) od H):
  wpAny M X.A (leaving X.env (.ref e)) (fun _ s''=>CXe X.prog X.w X.outer X.H₀ X.s₀ E (.ref e) s'') EE s:=by
 have d:∀b:Addr,b ∉ X.ex:=fun b z=>by simp_all
 have st:(hideAll s.heap (e::frs X.stack)).StaysIn _:=fun b o q=>of_hideAll _ q;have m:s.heap.FunFrames (hideAll s.heap (e::frs X.stack)) (X.env::X.outer):=by
  have:=I.stack;rw[hst]at this;exact funFrames_hide this fun h he a r=>Uc _ (by rw[hst];exact U9.mpr ⟨h,he,r⟩)
 have n:∀b o,X.s₀.heap.get? b=some o->b ∉ frs _->∃g,(hideAll s.heap (e::frs X.stack)).get? b=some g:=fun b o q j=>by
  obtain⟨g,v⟩:=I.base.there b o q (d b);refine⟨g,hideAll_get _ v fun i=>?_⟩;rcases Qn.mp i with z|z
  ·grind
  ·exact(ZaI hst hf z).elim (Qo (Qs (Qh q) I.ok.above)) j
 have p:∀b u,H b=some u->∃o,(hideAll s.heap (e::frs X.stack)).get? b=some o:=fun b u q=>by
  obtain⟨o,l⟩:=Zjz (I.hok b u q);refine⟨o,hideAll_get _ l fun i=>?_⟩;rcases Qn.mp i with z|z
  ·simp_all
  ·rw[I.stkFree b z]at q;cases q
 refine ZdG (base:=hideAll s.heap (e::frs X.stack)) (by rw[<-hst];exact I.ok.frames) m hf he st (hideAll_none _ Uq) rfl rfl fun _ k u=>⟨e,.ref C,od,H,_,rfl,I.os,I.bare,Zdt (show Un (frs X.outer) [] X.H₀ H X.s₀.heap s.heap from I.base.mono (fun _ z=>z) fun b z=>absurd z (d b)) st k.stays n I.ok.frf (fun b j o l=>?_) u,ZaN I.hok p st k.stays,k,n,p,q⟩;obtain⟨_,g,_,_⟩:=m.mem (by have:=Jn hst j;rw[hst]at this;exact this)
 simp_all
end
inductive Zby(C:Addr)(f:Str)(vs:List V)(H:Hp)(Q:VK)(_z3:XK):Prop
 |mk (e fv y:_) (_:vs=[.ref e,y]) (_:H e=some (XV C none fv e)) (_:∀dx,H dx=none->dx≠e->Q .non (upd (upd H dx (.xd [(f,y)])) e (XV C (some dx) fv e)))
def Zis(C:Addr)(f:Str)(E:XK)(t:TA):TS:=fun _ σ H=>t σ H fun vs H1=>∃y,vs=[y]/\∀dx,H1 dx=none->E (.ref C) (some dx) (upd H1 dx (.xd [(f,y)]))
section
variable{X:Cx}{k:Nat}{C D fI:Addr}{fd:FuncData}{ps:List Str}{E:XK}{x f:Str}{np pos cpos:Pos}{arg:Expr}{t:TA}
theorem Zcs(c:XCl X.K C D)(hi:findIn X.K (.ref C) "__init__"=some (some (.ref fI)))(hfn:isFn X.K (.ref fI)=true)
  (F:FnOk X.prog X.w X.K X.mg X.base CX0 k fI fd ps (Zby C f))(hr:Room (k+1) X.A)(hb:L2.Binds X.K fd ps [])(hg:Gl X x)(hm:X.mg x=some (.ref C))(ha:PA X [arg] t)
  (hst:X.stack=X.env::X.outer)(hf:X.env.frame=some X.env.locals)(hex:X.ex=[])
  (hxe:∀e s',wpAny (model X.prog X.w) X.A (leaving X.env e) (fun _ s''=>CXe X.prog X.w X.outer X.H₀ X.s₀ E e s'') (fun e' s''=>CXe X.prog X.w X.outer X.H₀ X.s₀ E e' s'') s'->X.xe e s')
  (hdb:(x==("__debug__":Str))=false:=by decide) (he:starEach [arg] X.env=(false,eval arg X.env)::starEach [] X.env:=by rfl):
  PS X (.Raise (some (.Call (.Name x np) [arg] [] cpos)) none pos) (Zis C f E t):=by
 refine fun pins s σ H Dn I h=>ZeC (C:=C) (D:=D) hr.hd (Up (Jp I hg hm (PySem.W.callWith_K (h₀:=X.base) I.ok.mod.kin c.kp (thn (ha cpos pins s σ H _ I h) fun us d⟨vs,H1,I1,r,y,ev,q⟩=>⟨I1.kIn,?_⟩) he rfl) hdb));subst ev;have kin:=I1.kIn;have e1:((d.heap.push (Y3 us)).push (Zcd C d.heap.objs.size)).get? (d.heap.objs.size+1)=some (Zcd C d.heap.objs.size):=by
  have:=Ql (d.heap.push (Y3 us)) (o:=Zcd C d.heap.objs.size) rfl
  rwa [QR]at this
 have I2:=(I1.kept (h':=d.heap.push (Y3 us)) (t':=d.toks) fun b u q=>Qc _ q).laid (a:=d.heap.objs.size+1) (o:=XV C none (Zes d.heap.objs.size) (d.heap.objs.size+1)) (h':=(d.heap.push (Y3 us)).push (Zcd C d.heap.objs.size)) (t':=d.toks)
  (fun b u q=>Qc _ q) (Nat.le_of_eq (QR _ _)) (XV.ok e1)
 have r2:Vals [V.ref (d.heap.objs.size+1),y] (Value.ref (d.heap.objs.size+1)::us):= .cons rfl r;have hsp:Zby C f [V.ref (d.heap.objs.size+1),y] (upd H1 (d.heap.objs.size+1) (XV C none (Zes d.heap.objs.size) (d.heap.objs.size+1))) (fun v H'=>v= .non/\∃g,H1 g=none/\g≠d.heap.objs.size+1/\
   H'=upd (upd (upd H1 (d.heap.objs.size+1) (XV C none (Zes d.heap.objs.size) (d.heap.objs.size+1))) g (.xd [(f,y)])) (d.heap.objs.size+1) (XV C (some g) (Zes d.heap.objs.size) (d.heap.objs.size+1))) E0:=
  ⟨_,_,y,rfl,Zd,fun g h1 h2=>⟨rfl,g,by rwa [Zi h2]at h1,h2,rfl⟩⟩
 have hl:((Value.ref (d.heap.objs.size+1)::us)++[]).length=ps.length:=by
  rw[UY,<-r2.length];exact F.len _ _ _ _ hsp
 have bd:=hb {d with heap:=(d.heap.push (Y3 us)).push (Zcd C d.heap.objs.size)} (Value.ref (d.heap.objs.size+1)::us) I2.kIn hl;rw[UY]at bd;refine Zcl (D:=D) (ZbU kin c.cls) (looks_findIn kin hi) (fun self=>bind_fn kin self (Ve.mp hfn)) (Va (UE (F.run _ X.stack _ _ ⟨Value.ref (d.heap.objs.size+1)::us,[]⟩ _ _ _ E0 (hr.make C us [])
  (I2.env0.make C us []) bd r2 hsp) fun rr s' hq=>?_)) (by rw[List.nil_append,(show us.length=1 from r.length.symm),QP];simp)
 cases rr with
 |error e=>exact False.elim hq
 |ok fl=>
  cases fl with
  |ret u=>
   obtain⟨v,H',I3,rv,ev,g,g1,g2,g3⟩:=I2.after hq;subst ev g3;obtain rfl:u=Value.none:=rv;have he:=XV.get (e:=d.heap.objs.size+1) I3.hok Zd;refine⟨rfl,d.heap.objs.size+1,d.heap.objs.size,some g,rfl,ZbU I3.kIn c.cls,he,hxe _ _ (ZcP hst hf hex (Zhs (e:=d.heap.objs.size+1) I3 Zd) (Heap.get?_none_of_le (Nat.le_succ_of_le I1.sz)) he Za9 ?_)⟩;have e4:Zds (upd (upd (upd H1 (d.heap.objs.size+1) (XV C none (Zes d.heap.objs.size) (d.heap.objs.size+1))) g (.xd [(f,y)])) (d.heap.objs.size+1) (XV C (some g) (Zes d.heap.objs.size) (d.heap.objs.size+1))) (d.heap.objs.size+1)
     =upd H1 g (.xd [(f,y)]):=by
    funext b
    by_cases z:b=d.heap.objs.size+1
    ·rw[z,Za9,Zi (Ne.symm g2),(I1.hok.fresh (Nat.le_succ _))]
    ·rw[Jd z,Zi z]
     by_cases z2:b=g
     ·rw[z2,Zd,Zd]
     ·rw[Zi z2,Zi z2,Zi z]
   rw[e4];exact q g g1
  |next=>exact False.elim hq
  |brk=>exact False.elim hq
  |cont=>exact False.elim hq
end
end RX
namespace RX
open PySem PySem.Spec PyProof.Rows L2 PySem.W
open Builtin Builtin.ObjectAttr
structure ZeK(K:Frag)(C:Addr):Prop where
 ga:findIn K (.ref C) "__getattribute__"=some (some (.builtin "BaseException.__getattribute__"))
 gh:findIn K (.ref C) "__getattr__"=some none
 hd:hasDictIn K C=true
 be:mroIn K C (.type "BaseException")=some true
 ob:mroIn K C (.type "object")=some true
 cl:findIn K (.ref C) "__class__"=some (some (.builtin "object.__class__"))
 cg:specialIn K (.builtin "object.__class__") "__get__"=some (some (.builtin "getset_descriptor.__get__"))
 ct:takesIn K (.builtin "object.__class__")=some true
theorem ZhT:builtinKind "BaseException.__getattribute__"=some .slot:=by decide+kernel
theorem Zgx:splitId "BaseException.__getattribute__"=some ("BaseException","__getattribute__"):=by decide+kernel
section
variable{prog:Program}{w:World}{A:Around}{E:Value->Shared->Prop}{s:Shared}{K:Frag}{x C:Addr}{ox:Obj}{od:Option Obj}{name:Str}{tk:Tok}{fill expr:Bool}{Q:Value->Shared->Prop}
theorem Zfw(X:K.In s.heap)(I:InstAt s.heap x ox C od)(g:ZeK K C)
  (h:wpAny (model prog w) A.in1 (Builtin.«object.__getattribute__» ⟨[.ref x,.str name tk],[]⟩) (fun fin s'=>match fin with| .done (.ret v)=>wpAny (model prog w) A (handedOut v) Q E s'|_=>False)
   (fun _ _=>False) s):wpAny (model prog w) A (getAttrBy (.ref x) (.str name tk) fill expr) Q E s:=by
 obtain⟨c,f,d,t,os⟩:=s;have L0:=I.type (M:=model prog w);refine Q5 (Qa (L0.here (s:=⟨c,f,d,t,os⟩) (Qa ((looks_findIn (M:=model prog w) X g.ga).here (s:=⟨c,f,d,t,os⟩) ?_))));dsimp only;rw[(show(onTheHeap (Value.ref C)&&Value.builtin "BaseException.__getattribute__"==Value.builtin "object.__getattribute__")=false by rw[(show(Value.builtin "BaseException.__getattribute__"==Value.builtin "object.__getattribute__")=false by decide+kernel)];rfl)];unfold getAttrByItsOwn hookBefore;refine Qa ((looks_findIn (M:=model prog w) X g.gh).here (s:=⟨c,f,d,t,os⟩) (Qa (wpAny_attempt (Q5 ?_))));unfold callGetattribute;rw[(show(expr&&onTheHeap (Value.builtin "BaseException.__getattribute__"))=false by cases expr<;>rfl)]
 refine Qa (Qg (Va (codeAny_call_builtin PySem.F.excAttr_ValueError.ga.plain PySem.F.entry_bexc_ga (@check_slot (model prog w) _ _ ⟨c,f,d,t,os⟩ "BaseException.__getattribute__" "BaseException" "__getattribute__" (.ref x) [.str name tk] [] _ ZhT Zgx (show Looks (model prog w) c (isInstance (.ref x) (.type "BaseException")) _ from L0.andThen (looks_mroIn X g.be)) (PySem.F.args_bexc_ga _ _) (Q2 h (fun fin s' z=>?_) fun _ _ z=>False.elim z)))))
 grind
theorem Zm9{o}{v}(X:K.In s.heap)(I:InstAt s.heap x ox C (some o))(g:ZeK K C)(ha:findIn K (.ref C) name=some none)(hl:lookIn name o=some (some v))(hh:handedIn v=true)(h:Q v {s with toks:=s.toks+1}):
  wpAny (model prog w) A (getAttr (.ref x) name expr) Q E s:=by
 refine Qa (wpAny_mkText ?_);obtain⟨c,b,d,t,os⟩:=s;exact Zfw X I g (Qa (Qg (Qa (Qg (Qa ((I.type (M:=model prog w)).here (s:=⟨c,b,d,t+1,os⟩) (Qa ((looks_find (M:=model prog w) X I (findObj_own g.hd ha rfl hl)).here (s:=⟨c,b,d,t+1,os⟩) (Qg (handed_on hh h))))))))))
theorem Zcj{od}{a g}(hc:(clsIn K C).isSome=true)(ha:findIn K (.ref C) name=some (some a))(hg:specialIn K a "__get__"=some (some g))(ht:takesIn K a=some true):findObj K C od name=some (.bind g a):=by
 obtain⟨_,_⟩:=Q6.mp hc;unfold findObj
 grind
theorem Zjc{Q}(X:K.In s.heap)(I:InstAt s.heap x ox C od)(g:ZeK K C)(h:Q (some (.ref C)) {s with toks:=s.toks+1}):wpAny (model prog w) A (getAttr? (.ref x) "__class__") Q E s:=by
 refine Qa (wpAny_mkText (Qa (wpAny_attempt ?_)));obtain⟨b,a,d,t,os⟩:=s;exact Zfw X I g (Qa (Qg (Qa (Qg (Qa (I.type.here (s:=⟨b,a,d,t+1,os⟩) (Qa ((looks_find X I (show findObj K C od _=some _ from Zcj (by obtain⟨_,c,_⟩:=any_some g.hd;rw[c];rfl) g.cl g.cg g.ct)).here (s:=⟨b,a,d,t+1,os⟩) (Qa (Q5 (Va (class_get (s:=⟨b,a,d,t+1,os⟩) X I g.ob (Qg (handed_on rfl (Qg h)))))))))))))))
theorem ZkH(g:ZeK K C):KitX K (.ref x) (.ref C) (fun h=>∃ox od,InstAt h x ox C od)where
 ty:=fun _ _ _⟨_,_,I⟩=>I.type
 it:=fun _ _ X _=>by
  obtain⟨d,a,_⟩:=any_some g.hd;unfold clsIn at a;split at a
  ·rename_i l j c f i
   exact fun _ _ _ _ k q=>Qa (wpAny_loadPart (k _ _ (X _ _ i)) (Qg q))
  ·cases a
 ne:=fun h _ _ _ n _ X b=>by
  obtain⟨d,a,_⟩:=any_some g.hd;refine U3.mpr fun q=>?_;have e:=Value.ref.inj (Ve.mp q);subst e;unfold clsIn at a;split at a
  ·rename_i l j c f i
   cases((X _ _ i).symm.trans b)
  ·cases a
 ca:=fun X⟨_,_,I⟩ k=>Zjc X I g k
end
def XO(C:Addr)(od:Option Addr)(e:Addr):HO:= .ext fun h=>∃o fv,h.get? e=some o/\o.cls= .ref C/\o.dict=od/\o.data= .fields fv
theorem XO.ok{P}{w}{H}{h}{C e}{od}{o}{fv:Array _}(e1:h.get? e=some o)(e2:o.cls= .ref C)(e3:o.dict=od)(e4:o.data= .fields fv):ObjOk P w H h e (XO C od e):=
 ⟨⟨o,fv,e1,e2,e3,e4⟩,⟨_,e1⟩,fun _ _⟨o,fv,p,r⟩ k=>⟨o,fv,k _ p,r⟩⟩
section
variable{P:Program}{w:World}{H:Hp}{h:Heap}{C e:Addr}{od:Option Addr}
theorem XO.get(x:HOk P w H h)(q:H e=some (XO C od e)):∃o fv,h.get? e=some o/\o.cls= .ref C/\o.dict=od/\o.data= .fields fv:=(x e _ q).1
theorem YQ{o}{fv}(h:o.data= .fields fv):notCls o=true:=by unfold notCls;rw[h]
theorem XO.inst(x:HOk P w H h)(q:H e=some (XO C od e))(hd:∀dx,od=some dx->∃u,H dx=some u):∃ox oo,InstAt h e ox C oo:=by
 obtain⟨o,_,f,c,d,g⟩:=XO.get x q;cases od with
 |none=>exact⟨o,none,f,c,YQ g,by rw[d];trivial⟩
 |some dx=>
  obtain⟨u,i⟩:=hd dx rfl;obtain⟨j,b⟩:=Zjz (x dx u i);exact⟨o,some j,f,c,YQ g,by rw[d];exact b⟩
end
section
variable{X:Cx}{f:Str}{e:Expr}{ta:TE}{pos:Pos}
def Zln(K:Frag)(ta:TE)(f:Str):TE:=fun σ H Q=>ta σ H fun x H1=>∃a C dx fs v,x= .ref a/\H1 a=some (XO C (some dx) a)/\H1 dx=some (.xd fs)/\ZeK K C/\findIn K (.ref C) f=some none/\fs.lookup f=some v/\(∀n,v≠.ty n)/\Q v H1
theorem Zfc(he:PE X e ta)(hb:attributeBase e f X.env (eval e X.env)=eval e X.env):PE X (.Attribute e f pos) (Zln X.K ta f):=by
 refine fun b s σ H Q I h=>Zjg hb (thn (he b s σ H _ I h) fun u _ xq1=>?_);obtain⟨x,F,c,t,a,C,z,_,v,A,y,w,g,n,l,_,q⟩:=xq1;subst A;obtain rfl:u=Value.ref a:=t;obtain⟨o,_,k,m,p,B⟩:=XO.get c.hok y;obtain⟨j,d,r⟩:=(c.hok z _ w);obtain⟨_,G,i⟩:=RelO.some_of (v:=v) (o:=j f) (by grind);obtain⟨_,E,D⟩:=Zcz d;exact Zm9 c.kIn ⟨k,m,YQ B,by rw[p];exact E⟩ g n (by rw[D,G]) (Zgi i) ⟨v,F,c.tok _,i,q⟩
def clV:V->Option Value
 | .ref a=>some (.ref a)
 | .ty n=>some (.type n)
 |_=>none
theorem Zjd{y}{c u}(e:clV y=some c)(r:L2.RelV y u):u=c:=by
 cases y<;>cases e<;>exact r
inductive ZnF(K:Frag)(xs:List V)(H:Hp)(Q:VK):Prop
 |mk (a C od y c b:_) (_:xs=[.ref a,y]) (_:H a=some (XO C od a)) (_:(∀dx,od=some dx->∃u,H dx=some u)) (_:ZeK K C) (_:clV y=some c) (_:kitOne K (.ref C) c=some b) (_:Q (.bl b) H)
theorem Yu:CallR X (.builtin "isinstance") (ZnF X.K):=by
 intro _ s σ H _ _ Q I r h;obtain⟨a,C,_,y,c,b,rfl,k,j,g,i,e,q⟩:=h;obtain⟨u,_,rfl,f,d⟩:=vals2 r;cases f;cases Zjd i d;exact kia_one (ZkH g) I.kIn (XO.inst I.hok k j) e (fun z=>nomatch z) fun l=>⟨.bl b,H,I.tok l,rfl,q⟩
end
end RX
namespace RX
open PySem PySem.Spec PyProof.Rows L2 PySem.W
section
variable{X:Cx}{pins:List (Addr×Obj)}{σ:L2.St}{H0 H':Hp}{s0 s':Shared}{e C:Addr}{cls fl fl':Value}{od:Option Addr}{B h':Heap}
structure Ly(X:Cx)(H0:Hp)(s0:Shared)(e:Addr)(cls:Value)(od:Option Addr)(H':Hp)(B:Heap)(fl:Value)(s':Shared):Prop where
 os:s'.os=s0.os
 bare:AllBare s'.gens
 un:Un (frs X.stack) [] H0 H' s0.heap s'.heap
 hok:HOk X.prog X.w H' s'.heap
 fly:Fl B X.stack e cls od fl s'.heap
 k1:∀b o,s0.heap.get? b=some o->b ∉ frs X.stack->∃o',B.get? b=some o'
 k2:∀b u,H' b=some u->∃o,B.get? b=some o
theorem Ly.to(x:Ly X H0 s0 e cls od H' B fl s')(I:L2.Inv X pins σ H0 s0)(f:Fl B X.stack e cls od fl' h')(u:s'.heap.UpToSlots h'):Ly X H0 s0 e cls od H' B fl' {s' with heap:=h'}:=by
 refine⟨x.os,x.bare,Zdt x.un x.fly.stays f.stays x.k1 I.stkFree (fun b a o _=>?_) u,ZaN x.hok x.k2 x.fly.stays f.stays,f,x.k1,x.k2⟩;obtain⟨_,_,_,_⟩:=x.fly.frames.mem a
 grind
theorem Ly.free(x:Ly X H0 s0 e cls od H' B fl s'):H' e=none:=by
 cases q:H' e with
 |none=>rfl
 |_ u=>
  obtain⟨o,a⟩:=x.k2 e u q;rw[x.fly.new]at a;cases a
theorem Ly.fresh(x:Ly X H0 s0 e cls od H' B fl s'):s0.heap.get? e=none:=by
 cases q:s0.heap.get? e with
 |none=>rfl
 |_ o=>
  by_cases a:e∈frs X.stack
  ·obtain⟨_,b,_,_⟩:=x.fly.frames.mem a
   obtain⟨_,_,_,_,_,_,_,_,_⟩:=x.fly.trace
   simp_all
  ·obtain⟨b,h⟩:=x.k1 e o q a
   rw[x.fly.new]at h;cases h
theorem Ly.inv(x:Ly X H0 s0 e cls od H' B fl s')(I:L2.Inv X pins σ H0 s0):L2.Inv X pins σ H' s':=
 I.call' x.os x.un x.hok x.bare fun b z=>absurd z (by simp)
theorem Ly.track(x:Ly X H0 s0 e (.ref C) od H' B fl s')(I:L2.Inv X pins σ H0 s0):L2.Inv X pins σ (upd H' e (XO C od e)) s':=by
 have _:=x.free;have a:∀b v,H' b=some v->b≠e:=fun b v q z=>by grind
 refine I.call' x.os ⟨x.un.keep,x.un.slot,fun b o q n h=>?_,x.un.there,fun b d q=>?_,fun b o d q=>?_,fun b f q=>?_⟩ (fun b u q=>?_) x.bare fun b z=>absurd z (by simp)
 ·rw[Zi (fun z=>by rw[z,x.fresh]at q;cases q)]
  exact x.un.free b o q n h
 ·have r:=x.un.tups b d q
  rw[Zi (a b _ r)];exact r
 ·have r:=x.un.frzs b o d q
  rw[Zi (a b _ r)];exact r
 ·obtain⟨m,r⟩:=x.un.tbls b f q
  exact⟨m,by rw[Zi (a b _ r)];exact r⟩
 ·by_cases z:b=e
  ·subst z
   rw[Zd]at q;cases q;obtain⟨_,_,_,_,_,g,⟨i,k⟩,j,_⟩:=x.fly.trace;exact XO.ok g i k j
  ·rw[Zi z]at q
   refine(x.hok b u q).stay (fun _ _ _ r=>r) (fun c r=>?_) fun c d r=>?_
   ·rw[Zi (a c _ r)];exact r
   ·rw[Zi (a c _ r)];exact r
end
abbrev mrk(X:Cx)(e:Addr):Cx:={X with A:=X.A.mark (some (.ref e)),calm:=false,xe:=fun _ _=>False}
section
variable{X:Cx}{pins:List (Addr×Obj)}{σ:L2.St}{H:Hp}{s:Shared}{e:Addr}
theorem Zfq(I:L2.Inv X pins σ H s)(e:Addr):L2.Inv (mrk X e) pins σ H s:=
 have a:=I.ok
 ⟨⟨a.mod,a.kind,a.glob,a.blt,a.above,a.inj,a.has,a.cab,(fun z=>Bool.noConfusion z),a.frames,a.stk,a.exf,a.bs,a.bsz,a.noex,a.exfs,a.funs,a.frf⟩,I.os,I.bare,I.base,I.loc,I.cell,I.free,I.freeC,I.pin,I.hok,I.len⟩
theorem JL(ok:X.Ok)(I:L2.Inv (mrk X e) pins σ H s):L2.Inv X pins σ H s:=
 ⟨ok,I.os,I.bare,I.base,I.loc,I.cell,I.free,I.freeC,I.pin,I.hok,I.len⟩
theorem ZkM{pn:List _}{E:Value->Shared->Prop}(I:L2.Inv X pins σ H s)(h:∀p∈pn,p∈X.pn++pins):L2.Inv {X with pn:=pn,xe:=E} [] σ H s:=
 have a:=I.ok
 ⟨⟨a.mod,a.kind,a.glob,a.blt,a.above,a.inj,a.has,a.cab,a.hd,a.frames,a.stk,a.exf,a.bs,a.bsz,a.noex,a.exfs,a.funs,a.frf⟩,I.os,I.bare,I.base,I.loc,I.cell,I.free,I.freeC,fun p b=>I.pin p (h p (by simpa using b)),I.hok,I.len⟩
theorem ZdJ{pn pins':List _}{E:Value->Shared->Prop}(ok:X.Ok)(I:L2.Inv {X with pn:=pn,xe:=E} pins' σ H s)(h:∀p∈X.pn++pins,p∈pn):L2.Inv X pins σ H s:=
 ⟨ok,I.os,I.bare,I.base,I.loc,I.cell,I.free,I.freeC,fun p a=>I.pin p (Qz _ (h p a)),I.hok,I.len⟩
theorem Zbi{M}{A}{E:Value->Shared->Prop}{i}{n}{pos}{Q:Unit->Shared->Prop}(I:L2.Inv X pins σ H s)(hN:X.N.Nodup)(hi:X.N[i]?=some n)(hk:X.env.scope.names.lookup n=some .local)
  (h:∀s',L2.Inv X pins (σ.set i none) H s'->Q () s'):wpAny M A (do bindName X.env n .none;unbindBehindTheSuite X.env n pos) Q E s:=by
 obtain⟨m,B,hl⟩:=id I.loc;have hiσ:i<σ.length:=by rw[I.len];exact(Qd.mp hi).1
 obtain⟨oL,_,_,hoL,_⟩:=id B;refine wpAny_nameGoes_keeps hk B (show(X.env.scope.kind== .class||(X.env.scope.kind== .module&&X.env.locals !=X.env.globals))=_ by rw[I.ok.kind];rfl) fun h' v x g=>?_;have f:=fun b ob e=>by
  refine(I.hok b ob e).stay (fun c w' r q=>(g.2 c ?_).trans q) (fun _ q=>q) fun _ _ q=>q;rintro rfl;rcases r with r|r
  ·rw[<-r,I.free]at e;cases e
  ·rw[I.free]at r;cases r
 have l:∀b o,X.s₀.heap.get? b=some o->b≠X.env.locals:=fun b o e=>Qo (Qs (Qh e) I.ok.above);refine h _ ⟨I.ok,I.os,I.bare,⟨fun b o e n w u=>?_,fun b o e n w u=>?_,I.base.free,fun b o e u=>?_,I.base.tups,I.base.frzs,I.base.tbls⟩,⟨_,x,fun j y v' t D e3=>?_⟩,fun y c e=>?_,I.free,I.freeC,fun p hp=>?_,f,by simpa using I.len⟩
 ·exact(g.2 b (l b o e)).trans (I.base.keep b o e n w u)
 ·obtain⟨sl,t⟩:=I.base.slot b o e n w u
  exact⟨sl,(g.2 b (l b o e)).trans t⟩
 ·obtain⟨o',t⟩:=I.base.there b o e u
  exact⟨o',(g.2 b (l b o e)).trans t⟩
 ·by_cases F:j=i
  ·simp_all
  ·rw[List.getElem?_set_ne (Ne.symm F)]at D
   obtain⟨u',r',q⟩:=hl j y v' t D e3;refine⟨u',r',?_⟩;rcases q with⟨k,e⟩|⟨k,c,e,z⟩
   ·refine .inl ⟨k,?_⟩
    have:y≠n:=fun e=>F (ZbB hN t (e▸hi));simp[this,e]
   ·exact .inr ⟨k,c,e,z.sameBut g (I.cne y c e)⟩
 ·obtain⟨w',z⟩:=I.cell y c e
  exact⟨w',z.sameBut g (I.cne y c e)⟩
 ·obtain⟨e,n,C,nf,d⟩:=I.pin p hp
  exact⟨(g.2 p.1 C).trans e,n,C,nf,d⟩
end
theorem ZfY{M}{A}{E}{s}{K}{e C C'}{oe}{b}{Q}(X:K.In s.heap)(he:s.heap.get? e=some oe)(hc:oe.cls= .ref C)
  (k:kitCls K (.ref C) (.ref C')=some b)(hb:mroIn K C' (.type "BaseException")=some true)(q:Q b s):wpAny M A (excMatches (.ref e) (.ref C')) Q E s:=by
 obtain⟨f,i,c⟩:=kit_cls X k;obtain⟨h,g,d,t,os⟩:=s;have j:Looks M h (isExcClass (.ref C')) true:=by
  unfold isExcClass;refine i.andThen ?_;rw[if_pos rfl];exact looks_mroIn X hb
 refine Qa ((show Looks M h _ _ from f.andThen (Looks.of_pure tc_notTuple)).here (Qa (Qg (Qa ?_))));rw[List.forIn_cons];refine Qa (Qa (j.here ?_));refine Qg (Qg (Qa ((show Looks M h _ (.ref C)from hc▸(Looks.ld he).andThen .now).here (Qa ?_))));refine Qa (Qa (c.here ?_));cases b with
 |true=>exact Qg (Qg (Qg q))
 |_=>
  exact Qg (Qg (Qg q))
abbrev TH:=L2.St->Value->Option Addr->Hp->Ends->Prop
def PH(X:Cx)(hs:List ExceptHandler)(th:TH):Prop:=∀(pins:List (Addr×Obj))(σ:L2.St)(H0:Hp)(s0:Shared)(e:Addr)(cls:Value)(od:Option Addr)(H':Hp)(B:Heap)(s':Shared)(D:Ends),
 L2.Inv X pins σ H0 s0->Ly X H0 s0 e cls od H' B .none s'->th σ cls od H' D->wpAny (model X.prog X.w) X.A (handleBy (.ref e) X.env hs) (SP X pins D) X.xe s'
abbrev ZjB(X:Cx)(pn:List (Addr×Obj))(E:Value->Shared->Prop):Cx:={X with pn:=pn,xe:=E}
def Zj8(X:Cx)(Ex:L2.St->XK):Prop:=∀(pins:List (Addr×Obj))(σ:L2.St)(H:Hp)(s:Shared)(e:Value)(s':Shared),L2.Inv X pins σ H s->CXe X.prog X.w X.stack H s (Ex σ) e s'->X.xe e s'
def Zn9(tb:(L2.St->XK)->TS)(th:TH):TS:=fun D σ H=>tb (fun σ' cls od H'=>th σ' cls od H' D) D σ H
section
variable{X:Cx}{body suite:List Stmt}{h₀:ExceptHandler}{hs rest:List ExceptHandler}{tb:(L2.St->XK)->TS}{th:TH}{pos hpos cp:Pos}
theorem Zke(hst:X.stack=X.env::X.outer)(hf:X.env.frame=some X.env.locals)(hb:∀pn E Ex,Zj8 (ZjB X pn E) Ex->PSs (ZjB X pn E) body (tb Ex)) (hh:PH X (h₀::hs) th):PS X (.Try body (h₀::hs) [] [] pos) (Zn9 tb th):=by
 intro pins s σ H D I h;refine wpAny_Try_except ?_;refine Q2 (hb (X.pn++pins) (fun ev s₁=>wpAny (model X.prog X.w) X.A (noteFrame ev X.env) (fun _ s₂=>wpAny (model X.prog X.w) X.A (setFlight ev none) (fun _ s₃=>wpAny (model X.prog X.w) X.A (handleBy ev X.env (h₀::hs)) (SP X pins D) X.xe s₃) X.xe s₂) X.xe s₁)
  (fun σ' cls od H'=>th σ' cls od H' D) (fun pins' σ' H1 s1 ev s' I1 x=>?_) [] s σ H D (ZkM I fun p hp=>hp) h) (fun f s1 q=>?_) fun _ _ q=>q
 ·have I2:L2.Inv X pins σ' H1 s1:=ZdJ I.ok I1 fun p hp=>hp
  obtain⟨e,cls,od,H',B,rfl,os,bare,un,hok,fl,k1,k2,q⟩:=x;have y:Ly X H1 s1 e cls od H' B .none s':=⟨os,bare,un,hok,fl,k1,k2⟩;have fl':Fl B (X.env::X.outer) e cls od .none s'.heap:=by rw[<-hst];exact fl
  show wpAny (model X.prog X.w) X.A (noteFrame (.ref e) X.env) _ _ s';refine Zfj (by rw[<-hst];exact I.ok.frames) hf fl' fun h1 f1 u1=>?_;rw[<-hst]at f1;have y1:=y.to I2 f1 u1;refine Jt (s:={s' with heap:=h1}) f1 fun h2 f2 u2=>?_;exact hh pins σ' H1 s1 e cls od H' B _ D I2 (y1.to I2 f2 u2) q
 ·have up:∀{σ':L2.St}{H':Hp}{EE:Value->Shared->Prop},L2.Inv (ZjB X (X.pn++pins) EE) [] σ' H' s1->L2.Inv X pins σ' H' s1:=fun J=>ZdJ I.ok J fun p hp=>hp
  cases f with
  |next=>obtain⟨σ',H',J,r⟩:=q;exact Qg ⟨σ',H',up J,r⟩
  |brk=>obtain⟨σ',H',J,r⟩:=q;exact⟨σ',H',up J,r⟩
  |cont=>obtain⟨σ',H',J,r⟩:=q;exact⟨σ',H',up J,r⟩
  |ret u=>obtain⟨v,σ',H',J,rv,r⟩:=q;exact⟨v,σ',H',up J,rv,r⟩
theorem Zkj:PH X [] (fun _ _ _ _ _=>False):=fun _ _ _ _ _ _ _ _ _ _ _ _ _ h=>h.elim
def unE(i:Nat)(D:Ends):Ends:={nx:=fun σ H=>D.nx (σ.set i none) H,rt:=D.rt,bk:=fun σ H=>D.bk (σ.set i none) H,ct:=fun σ H=>D.ct (σ.set i none) H}
def Zne(K:Frag)(C':Addr)(i:Nat)(ts:TS)(th:TH):TH:=fun σ cls od H D=>∃C b,cls= .ref C/\kitCls K (.ref C) (.ref C')=some b/\
 if b=true then∀e,H e=none->ts (unE i D) (σ.set i (some (.ref e))) (upd H e (XO C od e))else th σ cls od H D
theorem ZlG{c n:Str}{C':Addr}{i:Nat}{b₀:Stmt}{ts:TS}(hg:Gl X c)(hm:X.mg c=some (.ref C'))(hbe:mroIn X.K C' (.type "BaseException")=some true)(hN:X.N.Nodup)(hi:X.N[i]?=some n)
  (hk:X.env.scope.names.lookup n=some .local)(hs:∀e,PSs (mrk X e) (b₀::suite) ts) (hr:PH X rest th) (hdb:(c==("__debug__":Str))=false:=by decide):
  PH X (.ExceptHandler (some (.Name c cp)) (some n) (b₀::suite) hpos::rest) (Zne X.K C' i ts th):=by
 intro pins σ H0 s0 e cls od H' B s' D I y h;obtain⟨C,b,rfl,hkit,h⟩:=h;have J:=y.inv I;have Jm:=Zfq J e;obtain⟨oe,vs,_,_,_,he,⟨hc,_⟩,_⟩:=y.fly.trace;refine wpAny_handleBy_cons (codeAny_handlers_test (Jp (X:=mrk X e) Jm hg hm ?_ hdb)) (by intro q;cases q);refine ZfY J.kIn he hc hkit hbe ?_;cases b with
 |false=>
  rw[if_neg (by decide)]at h;exact hr pins σ H0 s0 e _ od H' B s' D I y h
 |true=>
  rw[if_pos rfl]at h;refine codeAny_handlers_suite_as ?_;refine Jt y.fly fun h2 f2 u2=>?_;have y2:=y.to I f2 u2;have J2:=Zfq (y2.track I) e;refine Zak (X:=mrk X e) J2 hN hi (.inl hk) (v:= .ref e) rfl (fun s3 J3=>?_) (.inr hk);refine Q2 (hs e pins s3 _ _ (unE i D) J3 (h e y.free)) (fun f s4 q=>?_) fun _ _ z=>False.elim z;have ok:=I.ok;cases f with
  |next=>obtain⟨σ',H4,J4,r⟩:=q;exact Zbi (JL ok J4) hN hi hk fun s5 J5=>⟨_,_,J5,r⟩
  |brk=>obtain⟨σ',H4,J4,r⟩:=q;exact Zbi (JL ok J4) hN hi hk fun s5 J5=>⟨_,_,J5,r⟩
  |cont=>obtain⟨σ',H4,J4,r⟩:=q;exact Zbi (JL ok J4) hN hi hk fun s5 J5=>⟨_,_,J5,r⟩
  |ret u=>obtain⟨v,σ',H4,J4,rv,r⟩:=q;exact Zbi (JL ok J4) hN hi hk fun s5 J5=>⟨v,_,_,J5,rv,r⟩
end
def ZjH(sp:Sp)(dvs:List V)(Ex:L2.St->XK)(t:TA):TE:=fun σ H Q=>t σ H fun vs H1=>sp (vs++dvs) H1 Q (Ex σ)
section
variable{X:Cx}{k:Nat}{f:Addr}{fd:FuncData}{ps:List Str}{sp:Sp}{dvs:List V}{ds:List Value}{Ex:L2.St->XK}{x:Str}{p pos:Pos}{e:Expr}{es:List Expr}{t:TA}
theorem ZgU(F:FnOk X.prog X.w X.K X.mg X.base (CXe X.prog X.w) k f fd ps sp)(hr:Room k X.A)(hg:Gl X x)(hm:X.mg x=some (.ref f))(hk:PySem.W.keepIn X.K (.ref f)=true)(hb:L2.Binds X.K fd ps ds)(hd:Vals dvs ds)(hx:Zj8 X Ex)
  (ha:PA X (e::es) t)(hdb:(x==("__debug__":Str))=false:=by decide)(he:starEach (e::es) X.env=(false,eval e X.env)::starEach es X.env:=by rfl)(hpl:(backTo pos (starEach es X.env)).any (·.1)=false:=by rfl):
  PE X (.Call (.Name x p) (e::es) [] pos) (ZjH sp dvs Ex t):=by
 intro pins s σ H Q I h;refine Up (Jp I hg hm ?_ hdb);refine PySem.W.callWith_K (h₀:=X.base) I.ok.mod.kin hk (thn (ha pos pins s σ H _ I h) fun us s1⟨vs,H1,I1,r,q⟩=>⟨I1.kIn,?_⟩) he hpl;have r2:Vals (vs++dvs) (us++ds):=r.append hd;have hl:(us++ds).length=ps.length:=by rw[<-r2.length];exact F.len _ _ _ _ q
 refine Va (UE (F.run X.A X.stack s1 H1 ⟨us,[]⟩ (us++ds) (vs++dvs) Q (Ex σ) hr I1.env0 (hb s1 us I1.kIn hl) r2 q) fun r s' hq=>?_);cases r with
 |error e=>exact hx pins σ H1 s1 e s' I1 hq
 |ok fl=>
  cases fl with
  |ret u=>exact I1.after hq
  |next=>exact False.elim hq
  |brk=>exact False.elim hq
  |cont=>exact False.elim hq
end
structure RoomM(k:Nat)(A:Around):Prop where
 dp:A.depth+3*k+5<recursionLimit
 un:A.units+16*k+200<cLine
theorem RoomM.of{k}{A}(r:Room k A)(h:Option _):RoomM k (A.mark h):=⟨r.dp,r.un⟩
theorem RoomM.mono{j k}{A}(r:RoomM k A)(h:j<=k):RoomM j A:=⟨by have:=r.dp;omega,by have:=r.un;omega⟩
theorem RoomM.deeper{k}{A}(r:RoomM (k+1) A)(env:Env):RoomM k (A.deeper env):=
 ⟨by have:=r.dp;show A.depth+1+3*k+5<_;omega,by have:=r.un;show A.units+3+16*k+200<_;omega⟩
theorem RoomM.units{k:Nat}{A:Around}(r:RoomM k A):A.units+64<cLine:=by have:=r.un;omega
theorem Zfx{P}{w}{K}{mg:Str->Option _}{base}{x qual}{st}{f}{fd}{N ps:List _}{k}{sp:Sp}(F:L2.Fun K x qual st f fd)(S:Zm N ps (L2.Zg st))(len:∀vs H Q E,sp vs H Q E->vs.length=ps.length)
  (hbody:∀(cdv:Value)(A:Around)(outer:List _)(s:Shared)(H:Hp)(vs:List V)(Q:VK)(E:XK),Room k (A.deeper (envOfC qual (L2.Zg st) s.heap.objs.size f cdv))->sp vs H Q E->
   ∃t,PSs (Yg (CXe P w) P w K mg base N qual (L2.Zg st) f cdv A outer s H E) (L2.ZE st) t/\t {nx:=fun _ H'=>Q .non H',rt:=Q} (start N vs) H):FnOk P w K mg base (CXe P w) (k+1) f fd ps sp:=by
 obtain⟨_,_,kV,_,_,_,cdv,_,_,rfl,c,a⟩:=F.ex;exact ZdN c a S len fun A outer s H vs Q E d b=>hbody _ A _ s H vs Q E d b
end RX
set_option maxHeartbeats 1000000
namespace L2
open PySem PySem.Spec PyProof.Rows PySem.SeqAt
section
variable{X:Cx}
inductive ZlF(K:PySem.W.Frag)(x:V)(y:V)(H:Hp)(Q:VK):Prop
 |mk (p q xs:_) (_:x= .ref p) (_:y= .ref q) (_:SqL K H p xs) (_:SqL K H q []) (_:Q (.bl (xs.length==0)) H)
theorem Zi9(hr:Room k X.A):OpR X (compareOp .Eq) (ZlF X.K):=by
 intro _ s σ H x y v u Q I r i h;obtain⟨p,q,d,rfl,rfl,n,o,f⟩:=h;cases r;cases i;have _:=hr.un;obtain⟨_,a,c,_⟩:=I.list n;obtain⟨_,b,g,_⟩:=I.list o;have _:=a.length;have _:=b.length.symm;cases d with
 |nil=>
  refine RcAt.lists (e:=fun _=>true) c.isList g.isList (by simp;omega) (by omega) (fun j _ m=>absurd m (by grind)) _ _ _ _ ?_;rw[all_true];exact⟨.bl _,H,I,rfl,f⟩
 |_ x d=>
  refine RcAt.lists_lengths c.isList g.isList (by
   grind) (by omega) _ _ _ _ ?_
  exact⟨.bl _,H,I,rfl,f⟩
inductive ZnC(K:PySem.W.Frag)(b:Bool)(x:V)(y:V)(H:Hp)(Q:VK):Prop
 |mk (p q d:_) (_:x= .ref p) (_:y= .ref q) (_:d<=150) (_:Sam K H d x y) (_:Q (.bl b) H)
theorem ZeW{σ:St}{H}{s}(I:Inv X pins σ H s){A:Around}{d:Nat}(hu:A.units+1+d<cLine){xs ys:List V}{vs ws:List _}(rvs:Vals xs vs)(rws:Vals ys ws)(hl:xs.length=ys.length)
  (hk:∀(i:Nat) u v,xs[i]?=some u->ys[i]?=some v->Sam X.K H d u v) (j:Nat) (h1:j<vs.toArray.size) (h2:j<ws.toArray.size):EqAt A.in1 s vs.toArray[j] ws.toArray[j] true:=by
 have _:=rws.length;simp[QA]at h1 h2;obtain⟨a,_,c⟩:=rvs.get (Qb (i:=j) (by omega));obtain⟨b,_,e⟩:=rws.get (Qb (i:=j) (by omega));simp[U2,(show vs[j]=a by simp_all),(show ws[j]=b by simp_all)];exact(ZcN I d _ _ _ a b (by omega) (hk j _ _ (Qb (by omega)) (Qb (by omega))) c e)
theorem Zkq(hr:Room k X.A):OpR X (compareOp .Eq) (ZnC X.K true):=by
 intro _ s σ H x y v u Q I B z h;obtain⟨p,q,d,rfl,rfl,_,h,l⟩:=h;cases B;cases z;have _:=hr.un;cases d with
 |zero=>exact h.2.elim
 |_ d=>
  rcases h with⟨_,h⟩|⟨a,b,_,_,w,C,h,o,n⟩
  ·exact h.elim
  cases w
  cases C
  rcases h with⟨g,j⟩|⟨g,j⟩
  ·obtain⟨m,c,i,_⟩:=I.tuple g
   obtain⟨r,e,f,_⟩:=I.tuple j;have D:=c.length;have E:=e.length;refine RcAt.tuples i f (by omega) (ZeW I (by omega) c e o n) _ _ _ _ ?_;rw[all_true,(show(m.toArray.size==r.toArray.size)=true by simp;omega)];exact⟨.bl _,H,I,rfl,l⟩
  ·obtain⟨m,c,i,_⟩:=I.list g
   obtain⟨r,e,f,_⟩:=I.list j;have D:=c.length;have E:=e.length;refine RcAt.lists i.isList f.isList (by simp;omega) (by omega) (ZeW I (by omega) c e o n) _ _ _ _ ?_;rw[all_true];exact⟨.bl _,H,I,rfl,l⟩
theorem Sam.up{K:PySem.W.Frag}{H:Hp}:∀{d:Nat}{x y:V},Sam K H d x y->Sam K H (d+1) x y
 |0,x,y,h=> .inl h
 |d+1,x,y,h=>by
  rcases h with h|⟨a,b,xs,ys,ea,eb,h,hl,hk⟩
  ·exact .inl h
  ·exact .inr ⟨a,b,xs,ys,ea,eb,h,hl,fun i u v h1 h2=>(hk i u v h1 h2).up⟩
theorem Sam.mono{K:PySem.W.Frag}{H:Hp}{d e:Nat}{x y:V}(h:Sam K H d x y)(hde:d<=e):Sam K H e x y:=by
 obtain⟨n,rfl⟩:=Nat.exists_eq_add_of_le hde
 clear hde
 induction n with
 |zero=>exact h
 |succ n ih=>exact ih.up
theorem Sam.tup{K:PySem.W.Frag}{H:Hp}{d:Nat}{a b:Addr}{xs ys:List V}(ha:H a=some (.tup xs))(hb:H b=some (.tup ys))(hl:xs.length=ys.length)(hk:∀(i:Nat) u v,xs[i]?=some u->ys[i]?=some v->Sam K H d u v):Sam K H (d+1) (.ref a) (.ref b):=
 .inr ⟨a,b,xs,ys,rfl,rfl,.inl ⟨SqT.of ha,SqT.of hb⟩,hl,hk⟩
theorem Sam.atom{K}{H}{d}{x}(h:Atom x):Sam K H d x x:=by
 cases d with
 |zero=>exact⟨rfl,h⟩
 |_ d=>exact .inl ⟨rfl,h⟩
end
end L2
namespace PySem.W
open PySem PySem.Spec PySem.Calls PyProof.Rows PyProof.V
section
variable{prog:Program}{w:World}{A:Around}{E:Value->Shared->Prop}{s:Shared}
theorem tcollect{it}{items}(ht:IsTup s.heap it items)(hz:items.size<=sizeLine)
  (h:∀h':Heap,(∀b o,s.heap.get? b=some o->h'.get? b=some o)->s.heap.objs.size<h'.objs.size->R items.toList {s with heap:=h'}):
  wpAny (model prog w) A (collect (.ref it)) R E s:=by
 obtain⟨o,ho,hc,n,hd⟩:=ht;refine Qa (wpAny_runValue (Ua entry_proto_collect' (Qa (UF (Qg ⟨UD PySem.F.plain_list_iadd _,Ua entry_list_iadd' ?_⟩)))));have p:(s.heap.push _).get? _=some {cls:= .type "list",data:= .seq #[]}:=Ql _ rfl;have t:=wpAny_extend_seq (prog:=prog) (w:=w) (A:=A) (s:={s with heap:=s.heap.push {cls:= .type "list",data:= .seq [].toArray}})
  (R:=fun q s'=>q= .ok (.ret (.ref s.heap.objs.size))/\s'={s with heap:=(s.heap.push {cls:= .type "list",data:= .seq [].toArray}).update s.heap.objs.size (Obj.mapSeq fun x=>x++items)})
  _ it _ 0 (.inr rfl) p (Qc _ ho) hc hd ⟨rfl,rfl⟩ hz
 obtain⟨cc,m⟩:∃cc,((s.heap.push {cls:= .type "list",data:= .seq [].toArray}).update s.heap.objs.size (Obj.mapSeq fun x=>x++items)).get? s.heap.objs.size=some {cls:= .type "list",dict:=none,data:= .seq items cc,slots:=#[]}:=by
  have e:=get?_update_seq (c:="list") (xs:=#[]) (n:=0) p (fun x=>x++items);rw[(show(#[])++items=items by simp)]at e;exact⟨_,e⟩
 have i:∀b o,s.heap.get? b=some o->((s.heap.push {cls:= .type "list",data:= .seq [].toArray}).update s.heap.objs.size (Obj.mapSeq fun x=>x++items)).get? b=some o:=fun b o e=>by
  rw[Heap.get?_update_ne _ _ _ _ (Qo (Qh e))];exact Qc _ e
 have r:=Qh m;refine Q2 t (fun u s' x=>?_) fun e s' x=>?_
 ·cases u with
  |done f=>
   obtain⟨e,rfl⟩:=x;cases e;exact Qa (wpAny_load m (Qg (h _ i r)))
  |again c₁=>
   refine⟨x.1,UE x.2 fun q s₂ y=>?_⟩;obtain⟨rfl,rfl⟩:=y;exact Qa (wpAny_load m (Qg (h _ i r)))
 ·simp_all
end
end PySem.W
namespace L2
open PySem PySem.Spec PyProof.Rows
section
variable{prog:Program}{w:World}{A:Around}{E:Value->Shared->Prop}{s:Shared}
theorem Zep{d}{vs:List _}{ns:List _}{Q:Value->Shared->Prop}(ht:IsTup s.heap d vs.toArray)(hI:IntsAre vs ns)(h64:vs.length<64)
  (h:∀(h':Heap)(p:Addr)(out:Array _)(e:Nat)(ns':List _),(∀b o,s.heap.get? b=some o->h'.get? b=some o)->s.heap.objs.size<=p->h'.get? p=some (seqObj "list" out e)->IntsAre out.toList ns'->ns'.Perm ns->ns'.Pairwise (·<=·)->Q (.ref p) {s with heap:=h'}):
  wpAny (model prog w) A (call (.builtin "sorted") [.ref d]) Q E s:=by
 refine Calls.call_function_entry kind_sorted plain_sorted entry_sorted (args_sorted1 _) (Qa (Qg (Qa (PySem.W.tcollect ht (by rw[QA];exact Yh (by omega)) fun g c _=>(Qa (wpAny_newList ?_ (Yh (by simp;omega))))))));have a:(g.push _).get? _=some (seqObj "list" vs.toArray 0):=Ql _ rfl;refine Qa (Q5 (UJ slot_list_sort ⟨_,a,rfl⟩ entry_list_sort (list_sort_tree a hI (by omega) fun out ns' m j l=>⟨_,rfl,?_⟩) (args_list_sort _)));obtain⟨e,k⟩:=sortedHeap_at a;refine Qg ⟨_,rfl,h _ g.objs.size out e ns' (fun b o i=>?_) ?_ k m j l⟩
 ·have f:=Qh (c b o i)
  rw[sortedHeap_old (Qo f) (by rw[size_push'];exact Uk f)];exact Qc _ (c b o i)
 ·grind
end
section
variable{X:Cx}
inductive ZgM(K:PySem.W.Frag)(xs:List V)(H:Hp)(Q:VK):Prop
 |mk (l:_) (ns:List Int) (_:xs=[.ref l]) (_:SqT K H l (ns.map V.int)) (_:ns.length<64) (_:∀p(ns':List Int) H',Same H H'->H' p=some (.lst (ns'.map V.int))->ns'.Perm ns->ns'.Pairwise (·<=·)->Q (.ref p) H')
theorem Za2:CallR X (.builtin "sorted") (ZgM X.K):=by
 intro _ s σ H _ _ Q I r h;obtain⟨l,_,rfl,j,_,q⟩:=h;obtain⟨u,rfl,m⟩:=vals1 r;cases m;obtain⟨_,d,t,_⟩:=I.tuple j;have b:=d.length;rw[Qq]at b;refine Zep t (Zfr d) (by omega) fun _ p _ e a i f g n c k=>?_;have _:=c.length_eq;exact⟨.ref p,_,I.laid (o:= .lst (a.map V.int)) i f ⟨by simp_all,_,e,ZdF n,g⟩,rfl,q _ a _ (Z0 (I.hok.fresh f)) Zd c k⟩
end
structure FunC(K:PySem.W.Frag)(x qual:Str)(st:Stmt)(f:Addr)(fd:FuncData)(c:Addr):Prop where
 ex:∃(oc:Value)(od:Option Addr)(kV doc pm:Value)(an:Option Addr)(ct:Value)(osl:Array (Option Value)),
  fd=PySem.W.fnOf x qual (JN st) (ZE st) (Zg st) .none kV doc pm an (.ref c) ct/\K.lookup f=some ⟨oc,od,.func fd,osl⟩/\PySem.W.codeIn K (.ref c) qual=true
section
variable{P:Program}{w:World}{K:PySem.W.Frag}{mg:Str->Option Value}{base:Heap}
theorem FunC.ok{x qual:Str}{st:Stmt}{f c:Addr}{fd:FuncData}{N ps:List Str}{k:Nat}{sp:Sp}(F:FunC K x qual st f fd c)(S:Zm N ps (Zg st))(len:∀vs H Q E,sp vs H Q E->vs.length=ps.length)
  (hbody:∀(A:Around)(outer:List Env)(s:Shared)(H:Hp)(vs:List V)(Q:VK)(E:XK),Room k (A.deeper (envOfC qual (Zg st) s.heap.objs.size f (.ref c)))->sp vs H Q E->
   ∃t,PSs (Yg CX0 P w K mg base N qual (Zg st) f (.ref c) A outer s H E).nox (ZE st) t/\t {nx:=fun _ H'=>Q .non H',rt:=Q} (start N vs) H):FnOk P w K mg base CX0 (k+1) f fd ps sp:=by
 obtain⟨oc,od,kV,doc,pm,an,ct,osl,rfl,lk,hcd⟩:=F.ex;refine ZdN lk hcd S len fun A outer s H vs Q E hr hsp=>?_;obtain⟨t,h,q⟩:=hbody A outer s H vs Q E hr hsp;exact⟨t,h.nox,q⟩
end
theorem Gr.none{P:Addr}{pos:Pos}{qual:Str}{H H':Hp}(g:Gr P pos qual H H'){d:Addr}(h:H' d=Option.none):H d=Option.none:=by
 cases q:H d with
 |none=>rfl
 |some o=>
  by_cases hd:d=P
  ·subst hd
   rcases g.tab with t|⟨c',t,_⟩
   ·rw[h]at t;cases t
   ·rw[h]at t;cases t
  ·rw[g.keep d o q hd]at h;cases h
theorem Gr.new{P:Addr}{pos:Pos}{qual:Str}{H H':Hp}(g:Gr P pos qual H H'){d:Addr}{o:HO}(h:H' d=Option.none):Gr P pos qual H (upd H' d o):=g.same (Zh h)
theorem Gr.lst{P:Addr}{pos:Pos}{qual:Str}{H H':Hp}(g:Gr P pos qual H H'){d:Addr}{xs ys:List V}(h:H' d=some (.lst xs))(hn:H d=Option.none):Gr P pos qual H (upd H' d (.lst ys)):=by
 refine⟨fun b o e n=>by rw[Zi (Zq e hn)];exact g.keep b o e n,?_⟩;rcases g.tab with t|⟨c',t,u⟩
 ·exact .inl (by rw[Zi (ZdB t h fun z=>nomatch z)];exact t)
 ·exact .inr ⟨c',by rw[Zi (ZdB t h fun z=>nomatch z)];exact t,by rw[Zi (ZdB u h fun z=>nomatch z)];exact u⟩
def Tk(H H':Hp):Prop:=∀q xs,H q=some (.tup xs)->H' q=some (.tup xs)
theorem Tk.trans(a:Tk H H1)(b:Tk H1 H2):Tk H H2:=fun q c e=>b q c (a q c e)
theorem Same.tk{H H'}(s:Same H H'):Tk H H':=fun q _ e=>s q _ e
theorem Gr.tk{P:Addr}{pos:Pos}{qual:Str}{H H':Hp}(g:Gr P pos qual H H')(t:TabI P pos qual H):Tk H H':=fun q xs e=>g.keep q _ e fun z=>by
 subst z;rcases t with t|⟨c',t,_⟩
 ·rw[e]at t;cases t
 ·rw[e]at t;cases t
theorem Zeh{H}{d}{xs ys}(h:H d=some (.lst xs)):Tk H (upd H d (.lst ys)):=fun q _ e=>by rw[Zi (ZdB e h fun z=>nomatch z)];exact e
end L2
namespace My
open PySem L2
def top(i:Nat):Stmt:=PySem.Challenge.pw_tintties_k42_whole_tinted.main.body.getD i (.Pass ⟨0,0,0,0⟩)
def Dr(ns:List Int):Prop:=ns.length=50/\∀x∈ns,0<=x
section
variable{P:Program}{w:World}{K:PySem.W.Frag}{mg:Str->Option Value}{base:Heap}{Pt c:Addr}
abbrev sMx:Stmt:=top 58
inductive spMx(vs:List V)(H:Hp)(Q:VK)(_z3:XK):Prop
 |mk (cc k:_) (_:vs=[.int cc,.int k]) (_:0<=k) (_:k<=1000) (_:∀v:Int,0<=v->Q (.int v) H)
theorem scMx:Zm ["_law_cell","_law_k","_law_first","_law_second"] ["_law_cell","_law_k"] (Zg sMx):=⟨rfl,rfl,rfl,by decide+kernel,rfl,by decide+kernel,by decide+kernel⟩
theorem Zmc(F:Fun K "_law_mixed" "_law_mixed" sMx f fd)(T:Bi mg):FnOk P w K mg base CX0 1 f fd ["_law_cell","_law_k"] spMx:=by
 refine F.ok scMx (fun c H Q E h=>?_) (fun _ A _ s H c Q E _ h=>?_)
 ·obtain⟨b,k,rfl,_⟩:=h
  rfl
 ·obtain⟨b,k,rfl,_,k1,q⟩:=h
  refine⟨_,Zb (Zl (i:=2) scMx.nd rfl (Or.inl rfl) (Zt ZN (Zt ZS (Zt ZS (Zt Y9 (Zt ZN (pv 0) Ze) (Zt ZS Ze (Zt Y9 Ze (pv 1)))) (Zt Y9 (Zt Y9 (pv 1) (pv 1)) Ze)) Ze) Ze))
   (Zb (Zl (i:=3) scMx.nd rfl (Or.inl rfl) (Zt ZN (Zt ZS (Zt Y9 (pv 2) (pv 2)) (Zt Y9 (pv 1) Ze)) Ze))
   (Zf (Zn (Zt ZN (Zt Y9 (pv 3) (pv 3)) Ze)))),_,rfl,_,_,rfl,rfl,(by grind),_,rfl,_,_,rfl,rfl,.inl ⟨by decide,by decide⟩,_,_,rfl,rfl,_,_,rfl,rfl,.inl ⟨by omega,by omega⟩,_,rfl,_,rfl,_,_,rfl,rfl,.inl ⟨by omega,by omega⟩,_,_,rfl,rfl,.inr ⟨by decide,by decide⟩,_,_,rfl,rfl,_,_,rfl,rfl,_,_,rfl,rfl,(by omega),?_⟩
  generalize hX:b%2147483629*(48271+2*k)+k*k*7919+104729=X;refine⟨_,rfl,_,rfl,_,_,rfl,rfl,.inl ⟨by omega,by omega⟩,_,rfl,_,_,rfl,rfl,.inl ⟨by omega,by omega⟩,_,_,rfl,rfl,_,_,rfl,rfl,(by grind),?_⟩;generalize hY:X%2147483647*(X%2147483647)+k*40692=Y;exact⟨_,rfl,_,rfl,_,_,rfl,rfl,.inl ⟨by omega,by omega⟩,_,_,rfl,rfl,(by simp_all),q _ (Jl (by decide))⟩
end
theorem ZeV(cs:List _)(k)(v):(cs.map V.int).set k (.int v)=(cs.set k v).map V.int:=by rw[List.map_set]
theorem get_map{cs:List _}{k:Nat}(h:k<cs.length):(cs.map V.int)[k]?=some (.int cs[k]):=by simp_all
section
variable{P:Program}{w:World}{K:PySem.W.Frag}{mg:Str->Option Value}{base:Heap}{Pt c:Addr}
abbrev sDs:Stmt:=top 59
abbrev nDs:List Str:=["_law_script","_law_many","_law_cells","_law_by_digits","_law_found","_law_k","_law_at"]
inductive Zlv(K:PySem.W.Frag)(vs:List V)(H:Hp)(Q:VK)(_z3:XK):Prop
 |mk (a:Addr) (ns:List Int) (_:vs=[.ref a,.int 50]) (_:SqL K H a (ns.map V.int)) (_:ns.length<=63) (_:∀H' d ds,Same H H'->H' d=some (.lst (ds.map V.int))->Dr ds->Q (.ref d) H')
theorem scDs:Zm nDs ["_law_script","_law_many"] (Zg sDs):=⟨rfl,rfl,rfl,by decide+kernel,rfl,by decide+kernel,by decide+kernel⟩
theorem Zmq(F:Fun K "_law_draws" "_law_draws" sDs f fd)(T:Bi mg)(FM:FnE P w K mg base "_law_mixed" ["_law_cell","_law_k"] 1 spMx):FnOk P w K mg base CX0 2 f fd ["_law_script","_law_many"] (Zlv K):=by
 refine F.ok scDs (fun vs H Q E h=>?_) (fun cdv A outer s H vs Q E hr h=>?_)
 ·obtain⟨a,ns,rfl,_⟩:=h
  rfl
 ·obtain⟨a,ns,rfl,hS,hl,q⟩:=h
  obtain⟨tR,hR,rest⟩:∃t,PSs (Yg CX0 P w K mg base nDs "_law_draws" (Zg sDs) f cdv A outer s H E).nox ((ZE sDs).drop 2) t/\∀(H1:Hp)(C:Addr)(cs:List Int),Same H H1->H C=none->H1 C=some (.lst (cs.map V.int))->0<cs.length->cs.length<=63->
    t {nx:=fun _ H'=>Q .non H',rt:=Q} [some (.ref a),some (.int 50),some (.ref C),none,none,none,none] H1:=by
   refine⟨_,Zb (Zl (i:=3) scDs.nd rfl (Or.inl rfl) (Yr ZK (Zt ZN (Zk Zz (pv 2) Ze (fun _ _=>rfl)) Ze) Ze (Zx _)))
    (Zb (JU (Zt Yt (Zk Zz (pv 2) Ze (fun _ _=>rfl)) Ze) (JV (pv 2) Ze Yl))
    (Zb (Zl (i:=4) scDs.nd rfl (Or.inl rfl) (ZI Za))
    (Zb (ZG QD rfl (ZZ rfl T.range (Zc (pv 1) Za)) (Zu (i:=5) scDs.nd rfl (Or.inl rfl))
     (Zb (Zl (i:=6) scDs.nd rfl (Or.inl rfl) (Zt ZN (pv 5) (Zo Zr rfl T.len Yv (Zc (pv 2) Za))))
     (Zf (Z2 (Yb (pv 3))
      (Zb (ZF (Y6 QB QG QH ZC (pv 4) (Zc (Zt ZN (Zk Zz (pv 2) (pv 6) (fun _ _=>rfl)) Ze) Za)))
      (Zf (JU (Zt Zha (Zk Zz (pv 2) (pv 6) (fun _ _=>rfl)) Ze) (JV (pv 2) (pv 6) Yl))))
      (Zf (ZF (Y6 QB QG QH ZC (pv 4) (Zc (Zs FM hr (Zc (Zk Zz (pv 2) (pv 6) (fun _ _=>rfl)) (Zc (pv 5) Za))) Za))))))))
    (Zf (Zn (pv 4)))))),fun H1 C cs s1 hC0 hC hpos h63=>?_⟩
   have g0:=Zv (get_map hpos);refine⟨_,rfl,C,_,_,_,rfl,rfl,SqL.of hC,g0,_,_,rfl,rfl,(by show(0:Int)<2;decide),rfl,?_⟩;generalize hb:decide (V.int (cs[0]%2)=V.int 0)=b;refine⟨_,rfl,C,_,_,_,rfl,rfl,SqL.of hC,g0,_,_,rfl,rfl,⟨by decide,by decide⟩,_,rfl,C,_,0,rfl,rfl,hC,by rw[Qq];exact hpos,?_⟩;rw[ZeV];refine⟨(QE _),fun D hD=>?_⟩;have hCD:C≠D:=fun z=>by subst z;rw[Zd]at hD;cases hD
   have hD0:H D=none:=by
    cases z:H D with
    |none=>rfl
    |some o=>rw[Zi (Ne.symm hCD),s1 D o z]at hD;cases hD
   have sC:∀H' o,Same H H'->Same H (upd H' C o):=fun H' o s' c' o' e'=>by rw[Zi (Zq e' hC0)];exact s' c' o' e'
   have sD:∀H' o,Same H H'->Same H (upd H' D o):=fun H' o s' c' o' e'=>by rw[Zi (Zq e' hD0)];exact s' c' o' e'
   refine⟨_,rfl,50,rfl,by decide,by decide,Y1 (lo:=0) (n:=(50:Int).toNat) (fun i σ H'=>E4 fun cs ds v5 v6=>σ=[some (.ref a),some (.int 50),some (.ref C),some (.bl b),some (.ref D),v5,v6]/\H' C=some (.lst (List.map V.int cs))/\0<cs.length/\H' D=some (.lst (List.map V.int ds))/\ds.length=i/\(∀x∈ds,0<=x)/\Same H H')
    ⟨cs.set 0 (cs[0]/2),[],_,_,rfl,by rw[Zi hCD,Zd],by rw[QT];exact hpos,Zd,rfl,(fun x hx=>by cases hx),sD _ _ (sC _ _ s1)⟩ (fun i σ H' hi xq1=>?_) (fun σ H' xq1=>?_)⟩
   ·obtain⟨cs,ds,v5,v6,e,hC',hp',hD',hl',hnn,sH⟩:=xq1
    subst e;have m1:=Jl (n:=0+(i:Int)) (p:=(cs.length:Int)) (by omega);have m2:=JY (n:=0+(i:Int)) (p:=(cs.length:Int)) (by omega);obtain⟨k,hk⟩:∃k:Nat,(0+(i:Int))%(cs.length:Int)=(k:Int):=⟨((0+(i:Int))%(cs.length:Int)).toNat,by omega⟩;have hkl:k<cs.length:=by omega
    refine⟨_,rfl,_,rfl,C,_,rfl,.inl (SqL.of hC'),_,_,rfl,rfl,(by show(0:Int)<((List.map V.int cs).length:Int);rw[Qq];omega),?_⟩;have hk2:(0+(i:Int))%((List.map V.int cs).length:Int)=(k:Int):=by rw[Qq];exact hk
    simp only[hk2];have gk:=Zv (get_map hkl);have szD:(List.map V.int ds).length<sizeLine:=by rw[Qq,QP];omega
    refine⟨_,rfl,_,rfl,Z3 (fun _=>?_) (fun _=>?_)⟩
    ·refine⟨_,rfl,.inl ⟨rfl,_,SqL.of hD'⟩,_,rfl,_,rfl,C,_,_,_,rfl,rfl,SqL.of hC',gk,_,_,rfl,rfl,(by show(0:Int)<2147483579;decide),D,_,_,rfl,rfl,hD',szD,?_⟩
     have hC2:(upd H' D (.lst (List.map V.int ds++[.int (cs[k]%2147483579)]))) C=some (.lst (List.map V.int cs)):=by rw[Zi hCD];exact hC'
     refine⟨_,rfl,_,rfl,C,_,_,_,rfl,rfl,SqL.of hC2,gk,_,_,rfl,rfl,⟨by decide,by decide⟩,_,rfl,_,rfl,C,_,k,rfl,rfl,hC2,by rw[Qq];exact hkl,?_⟩;rw[ZeV];refine⟨cs.set k (cs[k]/2147483579),ds++[cs[k]%2147483579],_,_,rfl,Zd,by rw[QT];exact hp',?_,by rw[Qk,hl'];rfl,fun x hx=>?_,sC _ _ (sD _ _ sH)⟩
     ·rw[Zi (Ne.symm hCD),Zd,QO]
      rfl
     ·rcases Qw.mp hx with z|z
      ·exact hnn x z
      ·rw[Qf.mp z];exact Jl (by decide)
    ·refine⟨_,rfl,.inl ⟨rfl,_,SqL.of hD'⟩,_,rfl,_,rfl,C,_,_,_,rfl,rfl,SqL.of hC',gk,_,rfl,cs[k],0+(i:Int),rfl,by omega,by omega,fun v hv=>⟨D,_,_,rfl,rfl,hD',szD,cs,ds++[v],_,_,rfl,by rw[Zi hCD];exact hC',hp',?_,by rw[Qk,hl'];rfl,fun x hx=>?_,sD _ _ sH⟩⟩
     ·rw[Zd,QO]
      rfl
     ·rcases Qw.mp hx with z|z
      ·exact hnn x z
      ·rw[Qf.mp z];exact hv
   ·obtain⟨cs,ds,v5,v6,e,hC',hp',hD',hl',hnn,sH⟩:=xq1
    subst e;exact⟨_,rfl,q H' D ds sH hD' ⟨hl',hnn⟩⟩
  refine⟨_,Zb (Zl (i:=2) scDs.nd rfl (Or.inl rfl) (Z8 Jv rfl T.list ZhV (Zc (pv 0) Za)))
   (Zb (Z2 (Zp ZK (Zo Zr rfl T.len Yv (Zc (pv 2) Za)) Ze (Zx _)) (Zf (Zl (i:=2) scDs.nd rfl (Or.inl rfl) (ZI (Zc Ze Za)))) Zw) hR),_,rfl,a,_,rfl,.inl hS,fun C hC=>⟨_,rfl,C,_,rfl,.inl (SqL.of Zd),rfl,_,rfl,Z3 (fun h0=>?_) (fun h0=>?_)⟩⟩
  ·refine⟨(by show 1<=sizeLine;decide),fun C2 hC2=>?_⟩
   have hC20:H C2=none:=by
    cases z:H C2 with
    |none=>rfl
    |some o=>rw[Zh hC C2 o z]at hC2;cases hC2
   exact rest _ C2 [1] (Same.trans (Zh hC) (Zh hC2)) hC20 Zd (by decide) (by decide)
  ·refine rest _ C ns (Zh hC) hC Zd ?_ hl
   rcases Nat.eq_zero_or_pos ns.length with z|z
   ·refine absurd ?_ h0
    rw[Qq,z];rfl
   ·exact z
end
section
variable{P:Program}{w:World}{K:PySem.W.Frag}{mg:Str->Option Value}{base:Heap}
abbrev ZgH:Stmt:=top 60
inductive Zeo(K:PySem.W.Frag)(vs:List V)(H:Hp)(Q:VK)(_z3:XK):Prop
 |mk (a ns k:_) (_:vs=[.ref a,.int k]) (_:SqL K H a (ns.map V.int)) (_:Dr ns) (_:0<=k) (_:k<=49) (_:Q (.int (draw ns k)) H)
theorem ZjN:Zm ["_law_draws_here","_law_k"] ["_law_draws_here","_law_k"] (Zg ZgH):=⟨rfl,rfl,rfl,by decide+kernel,rfl,by decide+kernel,by decide+kernel⟩
theorem ZiB(F:Fun K "_law_draw" "_law_draw" ZgH f fd)(T:Bi mg):FnOk P w K mg base CX0 1 f fd ["_law_draws_here","_law_k"] (Zeo K):=by
 refine F.ok ZjN (fun g H Q E h=>?_) (fun _ A _ s H g Q E _ h=>?_)
 ·obtain⟨a,b,k,rfl,_⟩:=h
  rfl
 ·obtain⟨a,b,k,rfl,i,c,_,_,q⟩:=h
  obtain⟨j,rfl⟩:∃j:Nat,k=(j:Int):=⟨k.toNat,by omega⟩;have d:j<b.length:=by rw[c.1];omega
  refine⟨_,Zf (Zn (Zk Zz (pv 0) (pv 1) (fun _ _=>rfl))),_,rfl,_,rfl,a,_,_,_,rfl,rfl,i,Zv (v:= .int b[j]) (by simp_all),?_⟩;have e:draw b (j:Int)=b[j]:=by
   unfold draw;rw[Q1,Qi,Qb d];have:=c.2 _ (List.getElem_mem d)
   grind
  rw[e]at q;exact q
end
end My
namespace My
def atB(e:Nat×Nat)(p:Nat):Bool:=p==e.1||p==e.2
theorem atB_iff:atB e p=true↔At e p:=by
 unfold atB At
 simp_all
def dg(es:List (Nat×Nat))(k p:Nat):Nat:=((List.range k).filter fun j=>atB (es.getD j (0,0)) p).length
theorem Zdi(es)(k p):dg es (k+1) p=dg es k p+if atB (es.getD k (0,0)) p then 1 else 0:=by
 unfold dg;rw[UA,Uv,Qk];congr 1;rw[Ub];split<;>rfl
def IsMax(xs:List Int)(M:Int):Prop:=(xs=[]/\M=0)\/(M∈xs/\∀a∈xs,a<=M)
theorem IsMax.uniq(h:IsMax xs M)(h':IsMax xs M'):M=M':=by
 rcases h with⟨e,h⟩|⟨_,_⟩<;>rcases h' with⟨_,h'⟩|⟨_,_⟩
 ·omega
 ·simp_all
 ·simp_all
 ·grind
def dl(es:List (Nat×Nat))(n:Nat):List Int:=(List.range n).map fun p:Nat=>(dg es es.length p)
theorem ZiI(h:IsMax (dl es n) M){p}(hp:p<n):(dg es es.length p)<=M:=by
 have a:(dg es _ p:Int)∈dl es n:=QQ.mpr ⟨p,QC.mpr hp,rfl⟩;rcases h with⟨e,_⟩|⟨_,h⟩
 ·simp_all
 ·exact h _ a
theorem Zj6(es)(k p):dg es k p<=k:=QM (Uy _ _) (by grind)
theorem Zav(h:IsMax (dl es n) M):0<=M/\M<=es.length:=by
 rcases h with⟨_,h⟩|⟨h,_⟩
 ·omega
 ·obtain⟨p,_,rfl⟩:=QQ.mp h
  have:=Zj6 es es.length p;omega
theorem sub_len:∀{a b:List Nat},a.Nodup->(∀x∈a,x∈b)->a.length<=b.length
 |[],b,_,_=>QE _
 |x::a,b,e,h=>by
  have c:=QN.mp e;have _:=h x (.head _);have _:=sub_len c.2 fun y d=>(List.mem_erase_of_ne (fun(z:y=x)=>c.1 (z▸d))).mpr (h y (.tail _ d))
  grind
theorem Zfz(p q r:Nat->Bool):∀l:List _,(l.filter fun j=>p j&&(q j||r j)).length<=(l.filter fun j=>p j&&q j).length+(l.filter fun j=>p j&&r j).length
 |[]=>Qe _
 |x::l=>by
  have _:=Zfz p q r l;simp[Ub];cases p x<;>cases q x<;>cases r x<;>simp<;>omega
theorem Zbk(k)(q)(hq:q k=true):∀l:List Nat,k∈l->(l.filter fun j=>j !=k&&q j).length+1<=(l.filter q).length
 |[],h=>by cases h
 |x::l,h=>by
  by_cases e:x=k
  ·subst e
   have _:(l.filter fun j=>j !=x&&q j).length<=(l.filter q).length:=by
    clear h
    induction l with
    |nil=>exact Qe _
    |_ y l a=>
     simp only[Ub];cases _:(y !=x)<;>cases _:q y<;>simp<;>omega
   simp_all
  ·have a:=Zbk k q hq l ((Qn.mp h).resolve_left fun z=>e z.symm)
   simp only[Ub];have:(x !=k)=true:=by simp[e]
   rw[this];cases q x<;>simp<;>omega
theorem Zgj{tl}{k m M}(hk:k<es.length)(hb:tl[k]?=some none)(h1:dg es es.length (es.getD k (0,0)).1<=M)(h2:dg es es.length (es.getD k (0,0)).2<=M)(hm:2*M<=m+1):
  ∃t,t<m/\¬Used es tl es.length (es.getD k (0,0)).1 t/\¬Used es tl es.length (es.getD k (0,0)).2 t:=by
 apply Qv;intro r;have e:∀t,t<m->Used es tl _ _ t\/Used es tl _ _ t:=fun t i=>by
  apply Qv;exact fun z=>r ⟨t,i,fun q=>z (.inl q),fun u=>z (.inr u)⟩
 generalize p:(es.getD k _).1=A at*;generalize o:(es.getD k _).2=B at*;have n:=sub_len (b:=((List.range es.length).filter fun j=>j !=k&&(atB (es.getD j (0,0)) A||atB (es.getD j (0,0)) B)).map fun j=>(tl.getD j none).getD 0) U8 fun t i=>by
  obtain⟨j,s,h,l⟩:∃j,j<es.length/\tl[j]?=some _/\(At _ A\/At _ B):=by
   rcases e t (QC.mp i)with⟨j,a,b,c⟩|⟨j,a,b,c⟩
   ·exact⟨j,a,b,.inl c⟩
   ·exact⟨j,a,b,.inr c⟩
  refine QQ.mpr ⟨j,Q8.mpr ⟨QC.mpr s,?_⟩,?_⟩
  ·rw[Ux,Bool.or_eq_true]
   exact⟨by simp[(show j≠k from fun z=>by simp_all)],l.imp atB_iff.mpr atB_iff.mpr⟩
  ·simp_all
 rw[U1,Qq]at n;have _:=Zfz (fun j=>j !=k) (fun j=>atB (es.getD j (0,0)) A) (fun j=>atB (es.getD j (0,0)) B) (List.range es.length);have _:=Zbk k (fun j=>atB (es.getD j (0,0)) A) (atB_iff.mpr (.inl p.symm)) _ (QC.mpr hk);have _:=Zbk k (fun j=>atB (es.getD j (0,0)) B) (atB_iff.mpr (.inr o.symm)) (List.range es.length) (QC.mpr hk);unfold dg at h1 h2;omega
theorem Ya(hC:CleanTo es tl es.length)(hl:tl.length=es.length)(hk:k<es.length)(n1:¬Used es tl es.length (es.getD k (0,0)).1 t)(n2:¬Used es tl es.length (es.getD k (0,0)).2 t):
  CleanTo es (tl.set k (some t)) es.length:=by
 have g:∀p,At (es.getD k (0,0)) p->¬Used es tl _ p t:=fun p c=>by
  rcases c with rfl|rfl
  ·exact n1
  ·exact n2
 intro i j l m e b a p c d;rw[Qy]at b a;by_cases h:k=i
 ·subst h
  rw[if_pos rfl,if_pos (by omega)]at b;cases b;rw[if_neg (by omega)]at a;exact g p c ⟨j,by omega,a,d⟩
 ·rw[if_neg h]at b
  by_cases f:k=j
  ·subst f
   rw[if_pos rfl,if_pos (by omega)]at a;cases a;exact g p d ⟨i,e,b,c⟩
  ·rw[if_neg f]at a
   exact hC i j l m e b a p c d
end My

namespace L2
open PySem PySem.Spec PyProof.Rows
theorem Ze0{X}{K}(hK:X.K=K):OpR X (compareOp .In) (rIn K false):=by
 subst hK;exact JJ
theorem Zfa{X:Cx}{K}{es:List _}{k}{t}{n}{pos}(hK:X.K=K)(hc:X.calm=true)(h:PGs X es t)(h1:(assignEach es X.env).length=n)(h2:(assignEach es X.env).findIdx? (·.1)=none):PG X (.Tuple es k pos) (ZmA K n t):=by
 subst hK;exact ZaC hc h h1 h2
end L2
namespace My
open PySem L2
def compScope:Expr->Scope
 | .ListComp _ _ s _=>s
 | .Call _ [e] _ _=>compScope e
 | .Tuple [_,e] _ _=>compScope e
 | .BinOp _ _ e _=>compScope e
 | .Compare a _ _ _=>compScope a
 |_=>{kind:= .function,names:=[],isGenerator:=false,isCoroutine:=false}
def retE:Stmt->Expr
 | .Return (some e) _=>e
 | .Assign _ e _=>e
 |_=> .Constant .none 0 ⟨0,0,0,0⟩
def stOf(i k:Nat):Stmt:=(ZE (top i)).getD k (.Pass ⟨0,0,0,0⟩)
theorem ZkE(L)(n):lv L n=((List.range n).map fun p:Nat=>(L p:Int)).map V.int:=by
 rw[U4];rfl
theorem Zd2(es)(N):(List.replicate N ([.int 0])).flatten=lv (dg es 0) N:=by
 apply List.ext_getElem?;intro i;have b:(List.replicate N ([.int 0]:List V)).flatten=List.replicate N (.int 0):=by
  simp_all
 rw[b];by_cases a:i<N
 ·rw[Zdb _ a,List.getElem?_replicate,if_pos a]
  rfl
 ·rw[Ut (by simp_all),Ut (by rw[ZbE];omega)]
theorem Zhh{L L'}(n)(h:∀p,L p=L' p):lv L n=lv L' n:=by rw[funext h]
theorem ZkS(es)(k)(h:(es.getD k (0,0)).1≠(es.getD k (0,0)).2)(p):
  put (put (dg es k) (es.getD k (0,0)).1 (dg es k (es.getD k (0,0)).1+1)) (es.getD k (0,0)).2 (put (dg es k) (es.getD k (0,0)).1 (dg es k (es.getD k (0,0)).1+1) (es.getD k (0,0)).2+1) p=dg es (k+1) p:=by
 rw[Zdi];unfold put atB;by_cases h1:p=(es.getD k (0,0)).1
 ·simp_all
 ·by_cases h2:p=(es.getD k (0,0)).2
  ·simp_all
  ·simp_all
section
variable{P:Program}{w:World}{K:PySem.W.Frag}{mg:Str->Option Value}{base:Heap}
abbrev ZjO:Stmt:=top 1
inductive spNum(vs:List V)(H:Hp)(Q:VK)(_z3:XK):Prop
 |mk (i:_) (_:vs=[.int i]) (_:Q (.bl true) H)
theorem Zlx:Zm ["thing"] ["thing"] (Zg ZjO):=⟨rfl,rfl,rfl,by decide+kernel,rfl,by decide+kernel,by decide+kernel⟩
theorem Zku{f}{fd}(F:Fun K "is_number" "is_number" ZjO f fd)(T:Bi mg):FnOk P w K mg base CX0 1 f fd ["thing"] spNum:=by
 refine F.ok Zlx (fun d H Q E h=>?_) (fun _ A _ s H d Q E _ h=>?_)
 ·obtain⟨x,rfl,_⟩:=h
  rfl
 ·obtain⟨i,rfl,q⟩:=h
  exact⟨_,Zf (Zn (Ys (Zo ZU rfl T.isi Zaf (Zc (pv 0) (Zc (YC (v:= .ty "int") rfl T.int ZkW rfl) Za)))
   (YO (Zeu (Zo ZU rfl T.isi Zaf (Zc (pv 0) (Zc (YC (v:= .ty "bool") rfl T.bool Zj7 rfl) Za))))))),_,rfl,_,_,_,_,rfl,.int i,kit K _ _ _ (by decide+kernel),_,rfl,Yi ⟨_,rfl,_,_,_,_,rfl,.int i,kit K _ _ false (by decide+kernel),_,rfl,q⟩⟩
abbrev ZjV:Stmt:=top 2
inductive spBel(vs:List V)(H:Hp)(Q:VK)(_z3:XK):Prop
 |mk (i n:_) (_:vs=[.int i,.int n]) (_:0<=i) (_:i<n) (_:Q (.bl true) H)
theorem Zl2:Zm ["thing","bound"] ["thing","bound"] (Zg ZjV):=⟨rfl,rfl,rfl,by decide+kernel,rfl,by decide+kernel,by decide+kernel⟩
theorem Zk6{f}{fd}(F:Fun K "is_below" "is_below" ZjV f fd)(FN:FnE P w K mg base "is_number" ["thing"] 1 spNum):FnOk P w K mg base CX0 2 f fd ["thing","bound"] spBel:=by
 refine F.ok Zl2 (fun b H Q E h=>?_) (fun _ A _ s H b Q E c h=>?_)
 ·obtain⟨x,n,rfl,_⟩:=h
  rfl
 ·obtain⟨i,n,rfl,a,_,q⟩:=h
  refine⟨_,Zf (Zn (Ys (Zs FN c (Zc (pv 0) Za)) (YO (ZgT Zjx ZaX Ze (pv 0) (pv 1))))),_,rfl,i,rfl,_,rfl,Yi ⟨_,rfl,_,_,rfl,rfl,_,rfl,Z3 (fun z=>⟨_,rfl,_,_,rfl,rfl,?_⟩) (fun z=>absurd (Qu a) z)⟩⟩
  simp_all
abbrev sMo:Stmt:=top 5
inductive spMo(vs:List V)(H:Hp)(Q:VK)(_z3:XK):Prop
 |mk (p n q ts es:_) (_:vs=[.ref p]) (_:NetZ H p n q ts es) (_:∀H' M,Same H H'->IsMax (dl es n) M->Q (.int M) H')
theorem scMo:Zm ["net","crowds","ends","point"] ["net"] (Zg sMo):=⟨rfl,rfl,rfl,by decide+kernel,rfl,by decide+kernel,by decide+kernel⟩
theorem Zmd{f}{fd}(F:Fun K "most_of" "most_of" sMo f fd)(T:Bi mg):FnOk P w K mg base CX0 1 f fd ["net"] spMo:=by
 refine F.ok scMo (fun vs H Q E h=>?_) (fun cdv A outer s H vs Q E hr h=>?_)
 ·obtain⟨p,n,q,ts,m,rfl,_⟩:=h
  rfl
 ·obtain⟨p,n,qa,ts,m,rfl,N,q⟩:=h
  refine⟨_,Zb (Zl (i:=1) scMo.nd rfl (Or.inl rfl) (Zt Zez (ZI (Zc Ze Za)) (Zk Zj (pv 0) Ze (fun _ _=>rfl))))
   (Zb (ZG QD rfl (Y8 (Zk Zj (pv 0) Ze (fun _ _=>rfl))) (Zu (i:=2) scMo.nd rfl (Or.inl rfl))
    (Zf (ZG QD rfl (Y8 (pv 2)) (Zu (i:=3) scMo.nd rfl (Or.inl rfl)) (Zf (Zi0 (pv 1) (pv 3) Zh7 Ze Zhr Yl)))))
   (Zf (Zn (Zi4 (d:=0) rfl (pv 1) Ze rfl T.max rfl)))),?_⟩
  have h60:=N.n60;refine⟨(by decide),fun b hb=>⟨_,rfl,p,_,_,_,rfl,rfl,SqT.of (by rw[Zi (Zq N.e1 hb)];exact N.e1),rfl,b,n,_,rfl,rfl,Zd,(by omega),(by omega),(by rw[QP];show 1*((n:Int)).toNat<=_;omega),fun D hD=>?_⟩⟩;have s1:Same H (upd (upd H b (.lst [.int 0])) D (.lst (List.replicate ((n:Int)).toNat ([.int 0])).flatten)):=Same.trans (Zh hb) (Zh hD);rw[Q1,Zd2 m];rw[Q1,Zd2 m]at s1;have step:∀(r)(g)(k),k<n->Same H r->r D=some (.lst (lv g n))->∀(Q'),(∀B,Same H B->B D=some (.lst (lv (put g k (g k+1)) n))->Q' B)->
    gGetL (.ref D) (.int k) r fun x B=>ipI (fun i j=>i+j) x (.int 1) B fun z H5=>rSetN (.ref D) (.int k) z H5 Q':=by
   refine fun r g k hk s2 hg Q' q'=>⟨D,_,k,.int (g k),rfl,rfl,hg,Zdb _ hk,(g k),1,rfl,rfl,D,_,k,rfl,rfl,hg,by rw[ZbE];exact hk,q' _ (s2.wr ((Zh hb).none hD)) ?_⟩;rw[Zd,<-ZkD];rfl
  refine⟨_,rfl,p,_,_,_,rfl,rfl,SqT.of (s1 _ _ N.e1),rfl,qa,rfl,⟨_,SqT.of (s1 _ _ N.e2)⟩,Y5 (K:=K) (a:=qa) (xs:=ts) (fun i σ H'=>(∃v2 v,σ=[some (.ref p),some (.ref D),v2,v])/\Same H H'/\H' D=some (.lst (lv (dg m i) n))) ⟨⟨_,_,rfl⟩,s1,Zd⟩ (fun i σ H' _ z=>SqT.of (z.2.1 _ _ N.e2)) (fun i x σ H' hx xq1=>?_) (fun σ H' xq1=>?_)⟩
  ·obtain⟨⟨v2,v,e⟩,sH,hc⟩:=xq1
   subst e;obtain⟨a,rfl,ha⟩:=N.tie i x hx;obtain⟨a1,b1,ab⟩:=N.ok _ (getD_mem (show i<m.length by rw[<-N.len];exact(Qd.mp hx).1));have tw:=ZkS m i ab;generalize hA:(m.getD i (0,0)).1=u at*;generalize hB:(m.getD i (0,0)).2=B1 at*;refine⟨_,rfl,a,rfl,⟨_,SqT.of (sH _ _ ha)⟩,Y5 (K:=K) (a:=a) (xs:=[.int u,.int B1]) (fun j σ r=>(∃v,σ=[some (.ref p),some (.ref D),some (.ref a),v])/\Same H r/\r D=some (.lst (lv (if j=0 then dg m i else if j=1 then put (dg m i) u (dg m i u+1)else put (put (dg m i) u (dg m i u+1)) B1 (put (dg m i) u (dg m i u+1) B1+1)) n))) ⟨⟨v,rfl⟩,sH,hc⟩ (fun j σ r _ z=>SqT.of (z.2.1 _ _ ha)) (fun j y σ r hy xq1=>?_) (fun σ r xq1=>?_)⟩
   ·obtain⟨⟨v,e3⟩,s2,h2⟩:=xq1
    subst e3
    match j,hy with
    |0,hy=>
     cases hy
     exact⟨_,rfl,_,rfl,step r _ u a1 s2 h2 _ fun B s3 h3=>⟨⟨_,rfl⟩,s3,h3⟩⟩
    |1,hy=>
     cases hy
     exact⟨_,rfl,_,rfl,step r _ B1 b1 s2 h2 _ fun B s3 h3=>⟨⟨_,rfl⟩,s3,h3⟩⟩
   ·obtain⟨⟨v,e3⟩,s2,h2⟩:=xq1
    refine⟨⟨_,_,e3⟩,s2,?_⟩;rw[h2,<-Zhh n tw];rfl
  ·obtain⟨⟨v2,v,z1⟩,z2,z3⟩:=xq1
   subst z1;rw[N.len,ZkE]at z3;refine⟨_,rfl,D,_,rfl,SqL.of z3,fun M hM=>q H' M z2 hM⟩
end
theorem ZaY(p:Nat)(e):inV (.int p) [.int (e.1),.int (e.2)]=true↔At e p:=by
 unfold inV At;simp[List.any_cons,List.any_nil,Bool.or_false,eqV,Bool.or_eq_true];omega
section
variable{P:Program}{w:World}{K:PySem.W.Frag}{mg:Str->Option Value}{base:Heap}
abbrev sTa:Stmt:=top 15
abbrev Zim:Scope:=compScope (retE (stOf 15 0))
abbrev nTa:List Str:=["net","tints","point"]
inductive ZjK(P:Program)(w:World)(vs:List V)(H:Hp)(Q:VK)(_z3:XK):Prop
 |mk (p r:Addr) (n:Nat) (q:Addr) (ts:List V) (es:List (Nat×Nat)) (tl:List (Option Nat)) (pt:Nat) (_:vs=[.ref p,.ref r,.int pt]) (_:NetZ H p n q ts es) (_:H r=some (.tup (tv tl))) (_:tl.length=es.length) (_:∀H' d kvs,Same H H'->H' d=some (Zgk P w d kvs)->(∀t:Nat,(ZD kvs (some t)).isSome=true↔Used es tl es.length pt t)->Q (.ref d) H')
theorem Zmy:(["ends","tint","point"]:List Str).Nodup:=by decide+kernel
theorem Znw:Zm nTa ["net","tints","point"] (Zg sTa):=⟨rfl,rfl,rfl,by decide+kernel,rfl,by decide+kernel,by decide+kernel⟩
theorem ZmK{f}{cdv}{A}{outer}{s}{H}{E}:
  Blk (Yg CX0 P w K mg base nTa "tints_at" (Zg sTa) f cdv A outer s H E).nox Zim [("point",s.heap.objs.size+1)] ["ends","tint","point"] [none,none,some 2]:=by
 refine⟨rfl,rfl,by decide+kernel,by decide+kernel,fun p d=>?_,fun y g e=>?_,⟨rfl,rfl,rfl⟩,trivial⟩
 ·rw[Qf.mp d]
  rfl
 ·have _:y∈[((PySem.Str.ofString _),NameKind.local),(PySem.Str.ofString _,.local),(PySem.Str.ofString _,.local),(PySem.Str.ofString _,.free)]:=g
  grind
theorem ZlT{f}{fd}(F:Fun K "tints_at" "tints_at" sTa f fd)(T:Bi mg):FnOk P w K mg base CX0 1 f fd ["net","tints","point"] (ZjK P w):=by
 refine F.ok Znw (fun vs H Q E h=>?_) (fun cdv A _ s H vs Q E hr h=>?_)
 ·obtain⟨p,r,n,q,ts,Y,tl,U,rfl,_⟩:=h
  rfl
 ·obtain⟨p,r,n,qa,ts,Y,tl,U,rfl,N,hR,htl,q⟩:=h
  refine⟨_,Zf (Zn (Z8 (ZeJ hr) rfl T.dict ZmX (Zc (Zkl ZmK rfl rfl T.zip (Zc (Zk Zj (pv 0) Ze (fun _ _=>rfl)) (Zc (pv 1) Za)) (Z7 (YI (Z9 0) (JX _)) (Z7 (Z9 1) Ye)) rfl rfl
   (fun C fp s H=>Zfa (K:=K) (n:=2) rfl rfl (@ZP _ _ _ _ _ (Zu (i:=0) Zmy rfl (Or.inl rfl) (hf:=Or.inr rfl)) (@ZP _ _ _ _ _ (Zu (i:=1) Zmy rfl (Or.inl rfl) (hf:=Or.inr rfl)) Ji rfl) rfl) rfl rfl)
   (fun C fp s H=>Y4 (Zp (Ze0 rfl) (pv 2) (pv 0) rfl)) (fun C fp s H=>Z1 (Zc (pv 1) (Zc YV Za)))) Za))),?_⟩
  have h200:=N.l200;have O:=N.len;refine⟨_,rfl,p,_,_,_,rfl,rfl,SqT.of N.e1,rfl,_,rfl,qa,r,ts,tv tl,rfl,SqT.of N.e2,SqT.of hR,(by rw[ZaA];omega),(by omega),
   fun i v σ S=>Same H S/\v.length<=i/\(∃G:List (Option Int×V),v.length=G.length/\(∀(j:Nat) y g,v[j]?=some y->G[j]?=some g->∃b,y= .ref b/\S b=some (.tup [nV g.1,g.2]))/\∀t:Nat,(∃g∈G,g.1=some (t:Int))↔Used Y tl i U t)/\∃v0 v1,σ=[v0,v1,some (.int U)],
   ⟨Same.refl H,Qe _,⟨[],rfl,(fun j y g z=>by cases z),fun t=>⟨(fun⟨g,z,_⟩=>by cases z),fun z=>absurd z Used.zero⟩⟩,none,none,rfl⟩,
   fun i v σ S hi⟨J,hl,_⟩=>⟨SqT.of (J _ _ N.e2),SqT.of (J _ _ hR),hl⟩,fun i x y v σ S hx hy xq1 TT H1 s1 hTT=>?_,fun v σ S xq1 l H2 s2 hl2=>?_⟩
  ·obtain⟨J,hl,⟨G,R,W,X⟩,v0,v1,e⟩:=xq1
   subst e;obtain⟨o,ho,rfl⟩:=Zea hy;obtain⟨a,rfl,ha⟩:=N.tie i x hx;have I:=Same.trans J s1;refine⟨TT,_,rfl,SqT.of hTT,rfl,_,_,rfl,_,_,rfl,rfl,_,rfl,_,rfl,a,_,rfl,.inr (SqT.of (I _ _ ha)),rfl,rfl,_,rfl,Z3 (fun hh=>?_) (fun hh=>?_)⟩
   ·refine⟨_,rfl,rfl,fun u H3 Z hu=>⟨Same.trans I Z,by rw[Qk,QF];omega,⟨G++[(o.map fun t:Nat=>(t:Int),.bl true)],by rw[Qk,Qk,R];rfl,fun j y g k B=>?_,fun t=>?_⟩,_,_,rfl⟩⟩
    ·by_cases hj:j<v.length
     ·rw[QJ hj]at k
      rw[QJ (by omega)]at B;obtain⟨b,M,L⟩:=W j y g k B;exact⟨b,M,Z _ _ (s1 _ _ L)⟩
     ·rw[Q0 (by omega)]at k
      rw[Q0 (by omega),<-R]at B;have hj0:j-v.length=0:=by
       cases hz:j-v.length with
       |zero=>rfl
       |succ m=>rw[hz]at k;cases k
      rw[hj0]at k B;cases k;cases B;exact⟨u,rfl,by rw[hu,Zli]⟩
    ·rw[Used.succ,<-X t,ho]
     constructor
     ·rintro⟨g,hp,e⟩
      rcases Qw.mp hp with z|z
      ·exact .inl ⟨g,z,e⟩
      ·rw[Qf]at z
       subst z
       right
       cases o with
       |none=>cases e
       |some t'=>
        have:t'=t:=by have:=Option.some.inj (show some (t':Int)=some (t:Int)from e);omega
        subst this;exact⟨rfl,((ZaY U (Y.getD i (0,0))).mp hh)⟩
     ·rintro(⟨g,hp,e⟩|⟨z,_⟩)
      ·exact⟨g,Qz _ hp,e⟩
      ·cases z
       exact⟨_,Qm _ (Qf.mpr rfl),rfl⟩
   ·refine⟨I,by omega,⟨G,R,fun j y g k B=>?_,fun t=>?_⟩,_,_,rfl⟩
    ·obtain⟨b,M,L⟩:=W j y g k B
     exact⟨b,M,s1 _ _ L⟩
    ·rw[X t,Used.succ]
     exact⟨.inl,fun z=>z.elim id fun⟨_,z⟩=>absurd z (fun z=>hh ((ZaY U (Y.getD i (0,0))).mpr z))⟩
  ·obtain⟨J,hl,⟨G,R,W,X⟩,_⟩:=xq1
   refine⟨l,v,G,rfl,SqL.of hl2,R,by omega,fun j y g k B=>?_,fun d H3 Z hd=>q H3 d _ (Same.trans (Same.trans J s2) Z) hd fun t=>?_⟩
   ·obtain⟨b,M,L⟩:=W j y g k B
    exact⟨b,M,s2 _ _ L⟩
   ·rw[Zdg,X t,O]
end
noncomputable def frees(es:List (Nat×Nat))(tl:List (Option Nat))(pt m:Nat):List Nat:=(List.range m).filter fun t=>@decide (¬Used es tl es.length pt t) (Classical.propDecidable _)
theorem Zch{es}{tl}{pt m}(h:¬Used es tl es.length pt m):frees es tl pt (m+1)=frees es tl pt m++[m]:=by
 unfold frees;rw[UA,Uv,Ub,if_pos (@Qu _ (Classical.propDecidable _) h)];rfl
theorem ZbM{es}{tl}{pt m}(h:Used es tl es.length pt m):frees es tl pt (m+1)=frees es tl pt m:=by
 unfold frees;rw[UA,Uv,Ub,if_neg (fun z=>absurd h (@Qr _ (Classical.propDecidable _) z))];simp
theorem Zc5(es)(tl)(pt m):(frees es tl pt m).length<=m:=QM (Uy _ _) (by simp_all)
theorem nl_app(l)(x:Nat):nl l++[V.int x]=nl (l++[x]):=by unfold nl;simp_all
section
variable{P:Program}{w:World}{K:PySem.W.Frag}{mg:Str->Option Value}{base:Heap}
abbrev sFt:Stmt:=top 16
abbrev ZiT:Scope:=compScope (retE (stOf 16 1))
abbrev nFt:List Str:=["net","tints","point","many","taken"]
inductive spFt(vs:List V)(H:Hp)(Q:VK)(_z3:XK):Prop
 |mk (p r:Addr) (n:Nat) (q:Addr) (ts:List V) (es:List (Nat×Nat)) (tl:List (Option Nat)) (pt m:Nat) (_:vs=[.ref p,.ref r,.int pt,.int m]) (_:NetZ H p n q ts es) (_:H r=some (.tup (tv tl))) (_:tl.length=es.length) (_:m<=1000) (_:∀H' t,Same H H'->H' t=some (.tup (nl (frees es tl pt m)))->Q (.ref t) H')
theorem ZnR:(["tint","taken"]:List Str).Nodup:=by decide+kernel
theorem scFt:Zm nFt ["net","tints","point","many"] (Zg sFt):=⟨rfl,rfl,rfl,by decide+kernel,rfl,by decide+kernel,by decide+kernel⟩
theorem ZmR{f}{cdv}{A}{outer}{s}{H}{E}:
  Blk (Yg CX0 P w K mg base nFt "free_tints" (Zg sFt) f cdv A outer s H E).nox ZiT [("taken",s.heap.objs.size+1)] ["tint","taken"] [none,some 4]:=by
 refine⟨rfl,rfl,by decide+kernel,by decide+kernel,fun p d=>?_,fun y g e=>?_,⟨rfl,rfl,rfl⟩,trivial⟩
 ·rw[Qf.mp d]
  rfl
 ·have c:y∈[((PySem.Str.ofString _),NameKind.local),(PySem.Str.ofString _,.local),(PySem.Str.ofString _,.free)]:=g
  simp[Qn,Qt,Q3]at c
  grind
theorem Zmm{f}{fd}(F:Fun K "free_tints" "free_tints" sFt f fd)(T:Bi mg)(FA:FnE P w K mg base "tints_at" ["net","tints","point"] 1 (ZjK P w)):FnOk P w K mg base CX0 2 f fd ["net","tints","point","many"] spFt:=by
 refine F.ok scFt (fun vs H Q E h=>?_) (fun cdv A _ s H vs Q E hr h=>?_)
 ·obtain⟨p,r,n,q,I,b,k,u,m,rfl,_⟩:=h
  rfl
 ·obtain⟨p,r,n,qa,I,b,k,u,m,rfl,N,hR,D,hm,q⟩:=h
  refine⟨_,Zb (Zl (i:=4) scFt.nd rfl (Or.inr rfl) (Zs FA hr (Zc (pv 0) (Zc (pv 1) (Zc (pv 2) Za)))))
   (Zf (Zn (Z8 Z6 rfl T.tuple Y2 (Zc (Zkm ZmR rfl rfl T.range (Zc (pv 3) Za) (Z7 (Z9 3) Ye) rfl (fun C G s H=>Zu (i:=0) ZnR rfl (Or.inl rfl))
    (fun C G s H=>Y4 (J1 (ZaW (P:=P) (w:=w) rfl rfl (pv 0) (pv 1)))) (fun C G s H=>pv 0)) Za)))),_,rfl,_,rfl,_,rfl,p,r,n,qa,I,b,k,u,rfl,N,hR,D,fun H1 d y s1 hd g=>⟨_,rfl,m,rfl,by omega,fun i j σ o=>Same H1 o/\j=nl (frees b k u i)/\∃J,σ=[J,some (.ref d)],⟨Same.refl _,rfl,_,rfl⟩,fun i j σ o hi⟨_,e,_⟩=>by subst e;rw[Zy];exact Zc5 _ _ _ _,fun i j σ o hi xq1=>?_,fun j σ o xq1 l H2 s2 hl=>?_⟩⟩
  ·obtain⟨c,v,J,e⟩:=xq1
   subst v e;refine⟨_,rfl,_,rfl,d,y,some (0+i),rfl,rfl,c _ _ hd,_,rfl,?_⟩;rw[U5];refine Z3 (fun B=>?_) (fun B=>?_)
   ·have x:¬Used b k b.length u i:=fun z=>by rw[(g i).mpr z]at B;cases B
    exact⟨_,rfl,c,by rw[Zch x,<-nl_app],_,rfl⟩
   ·have x:=(g i).mp (by
     grind)
    exact⟨c,by rw[ZbM x],_,rfl⟩
  ·obtain⟨c,v,_⟩:=xq1
   subst v;exact⟨l,_,rfl,.inl hl,fun t H3 s3 ht=>q H3 t (Same.trans (Same.trans (Same.trans s1 c) s2) s3) ht⟩
abbrev sFb:Stmt:=top 17
abbrev ZiX:Scope:=compScope (retE (stOf 17 1))
abbrev nFb:List Str:=["net","tints","one","other","many","taken"]
end
theorem ZaH{sp}{t}(hs:∀vs H Q Q' E,(∀v H',Q v H'->Q' v H')->sp vs H Q E->sp vs H Q' E) (h:JR t):Jb (ZeS sp [] E0 t):=fun σ H Q Q' k q=>h σ H _ _ (fun vs _ q=>hs _ _ _ _ _ k q) q
theorem ZiJ:∀vs H Q Q' E,(∀v H',Q v H'->Q' v H')->spFt vs H Q E->spFt vs H Q' E:=fun vs H Q Q' E k⟨p,r,n,q,b,a,f,g,m,e,N,d,i,h,z⟩=>⟨p,r,n,q,b,a,f,g,m,e,N,d,i,h,fun H' t s c=>k _ _ (z H' t s c)⟩
noncomputable def Zbr(es:List (Nat×Nat))(tl:List (Option Nat))(pt:Nat)(l:List Nat):List Nat:=l.filter fun t=>@decide (¬Used es tl es.length pt t) (Classical.propDecidable _)
theorem Zdr{es}{tl}{pt t}{l}:t∈Zbr es tl pt l↔t∈l/\¬Used es tl es.length pt t:=by
 unfold Zbr
 simp_all
theorem Zik{es}{tl}{pt x i}{l:List _}(hx:l[i]?=some x)(h:¬Used es tl es.length pt x):Zbr es tl pt (l.take (i+1))=Zbr es tl pt (l.take i)++[x]:=by
 rw[Ue,hx];show List.filter _ (l.take i++[x])=_;rw[Uv,Ub,if_pos (@Qu _ (Classical.propDecidable _) h)];rfl
theorem Zg2{es}{tl}{pt x i}{l:List _}(hx:l[i]?=some x)(h:Used es tl es.length pt x):Zbr es tl pt (l.take (i+1))=Zbr es tl pt (l.take i):=by
 unfold Zbr;rw[Ue,hx]
 simp_all
theorem Zg3(es)(tl)(pt)(l):(Zbr es tl pt l).length<=l.length:=Uy _ _
theorem frees_mem{es}{tl}{pt t m}:t∈frees es tl pt m↔t<m/\¬Used es tl es.length pt t:=by
 show t∈Zbr es tl pt _↔_;rw[Zdr,QC]
noncomputable def both(es:List (Nat×Nat))(tl:List (Option Nat))(a b m:Nat):List Nat:=Zbr es tl b (frees es tl a m)
theorem both_mem{es}{tl}{a b t m}:t∈both es tl a b m↔t<m/\¬Used es tl es.length a t/\¬Used es tl es.length b t:=by
 unfold both;rw[Zdr,frees_mem,and_assoc]
theorem ZaG{l}{i:Nat}{x}(h:(nl l)[i]?=some x):∃y,l[i]?=some y/\x= .int y:=by
 unfold nl at h;rw[Qx]at h;cases e:l[i]? with
 |none=>simp_all
 |some y=>simp_all
section
variable{P:Program}{w:World}{K:PySem.W.Frag}{mg:Str->Option Value}{base:Heap}
inductive spFb(vs:List V)(H:Hp)(Q:VK)(_z3:XK):Prop
 |mk (p r:Addr) (n:Nat) (q:Addr) (ts:List V) (es:List (Nat×Nat)) (tl:List (Option Nat)) (a b m:Nat) (_:vs=[.ref p,.ref r,.int a,.int b,.int m]) (_:NetZ H p n q ts es) (_:H r=some (.tup (tv tl))) (_:tl.length=es.length) (_:m<=1000) (_:∀H' t,Same H H'->H' t=some (.tup (nl (both es tl a b m)))->Q (.ref t) H')
theorem ZnS:(["tint","taken"]:List Str).Nodup:=by decide+kernel
theorem scFb:Zm nFb ["net","tints","one","other","many"] (Zg sFb):=⟨rfl,rfl,rfl,by decide+kernel,rfl,by decide+kernel,by decide+kernel⟩
theorem ZmS{f}{cdv}{A}{outer}{s}{H}{E}:
  Blk (Yg CX0 P w K mg base nFb "free_at_both" (Zg sFb) f cdv A outer s H E).nox ZiX [("taken",s.heap.objs.size+1)] ["tint","taken"] [none,some 5]:=by
 refine⟨rfl,rfl,by decide+kernel,by decide+kernel,fun p d=>?_,fun y g e=>?_,⟨rfl,rfl,rfl⟩,trivial⟩
 ·rw[Qf.mp d]
  rfl
 ·have c:y∈[((PySem.Str.ofString _),NameKind.local),(PySem.Str.ofString _,.local),(PySem.Str.ofString _,.free)]:=g
  simp[Qn,Qt,Q3]at c
  grind
theorem Zmo{f}{fd}(F:Fun K "free_at_both" "free_at_both" sFb f fd)(T:Bi mg)(FA:FnE P w K mg base "tints_at" ["net","tints","point"] 2 (ZjK P w))(FF:FnE P w K mg base "free_tints" ["net","tints","point","many"] 2 spFt):FnOk P w K mg base CX0 3 f fd ["net","tints","one","other","many"] spFb:=by
 refine F.ok scFb (fun vs H Q E h=>?_) (fun cdv A _ s H vs Q E hr h=>?_)
 ·obtain⟨p,r,n,q,ts,c,k,a,b,m,rfl,_⟩:=h
  rfl
 ·obtain⟨p,r,n,qa,ts,c,k,a,b,m,rfl,N,hR,o,hm,q⟩:=h
  refine⟨_,Zb (Zl (i:=5) scFb.nd rfl (Or.inr rfl) (Zs FA hr (Zc (pv 0) (Zc (pv 1) (Zc (pv 3) Za)))))
   (Zf (Zn (Z8 Z6 rfl T.tuple Y2 (Zc (Zb7 ZmS rfl (Zs FF hr (Zc (pv 0) (Zc (pv 1) (Zc (pv 2) (Zc (pv 4) Za))))) (ZaH ZiJ (Z7 (Z9 0) (Z7 (Z9 1) (Z7 (Z9 2) (Z7 (Z9 4) Ye)))))
    (fun C fp s H=>Zu (i:=0) ZnS rfl (Or.inl rfl)) (fun C fp s H=>Y4 (J1 (ZaW (P:=P) (w:=w) rfl rfl (pv 0) (pv 1)))) (fun C fp s H=>pv 0)) Za)))),_,rfl,_,rfl,_,rfl,p,r,n,qa,ts,c,k,b,rfl,N,hR,o,fun H1 d B s1 hd v=>⟨_,rfl,_,rfl,_,rfl,_,rfl,p,r,n,qa,ts,c,k,a,m,rfl,N.same s1,s1 _ _ hR,o,hm,fun H2 t s2 ht=>?_⟩⟩
  have hfl:=Zc5 c k a m;refine⟨t,_,rfl,SqT.of ht,(by rw[Zy];omega),fun i D σ G=>Same H2 G/\D=nl (Zbr c k b ((frees c k a m).take i))/\∃v0,σ=[v0,some (.ref d)],⟨Same.refl _,rfl,none,rfl⟩,fun i D σ G hi⟨j,e,_⟩=>⟨SqT.of (j _ _ ht),?_⟩,fun i x D σ G hx xq1=>?_,fun D σ G xq1 l H3 s3 hl=>?_⟩
  ·subst e
   rw[Zy];refine QM (Zg3 _ _ _ _) ?_;rw[UC];omega
  ·obtain⟨j,I,v0,e⟩:=xq1
   subst I e;obtain⟨y,hy,rfl⟩:=ZaG hx;refine⟨_,rfl,_,rfl,d,B,some y,rfl,rfl,j _ _ (s2 _ _ hd),_,rfl,Z3 (fun u=>?_) (fun u=>?_)⟩
   ·have J:¬Used c k c.length b y:=fun z=>by rw[(v y).mpr z]at u;cases u
    exact⟨_,rfl,j,by rw[Zik hy J,<-nl_app],_,rfl⟩
   ·have J:=(v y).mp (by
     cases z:(ZD B (some y)).isSome with
     |true=>rfl
     |_=>rw[z]at u;exact absurd rfl u)
    exact⟨j,by rw[Zg2 hy J],_,rfl⟩
  ·obtain⟨j,I,_⟩:=xq1
   subst I;rw[Zy,UL]at hl;exact⟨l,_,rfl,.inl hl,fun t' H4 s4 L=>q H4 t' (Same.trans (Same.trans (Same.trans (Same.trans s1 s2) j) s3) s4) L⟩
end
end My
namespace L2
open PySem PySem.Spec PyProof.Rows
structure MeE(P:Program)(w:World)(K:PySem.W.Frag)(mg:Str->Option Value)(base:Heap)(C:Addr)(m:Str)(ps:List Str)(k:Nat)(sp:Sp):Prop where
 ex:∃f fd,FnOk P w K mg base CX0 k f fd ps sp/\Zgz K C m f/\Cls K C/\Binds K fd ps []
theorem MeE.mono{K}{mg}{base}{C}{x}{ps}{j k}{sp:Sp}(F:MeE P w K mg base C x ps j sp)(h:j<=k):MeE P w K mg base C x ps k sp:=
 let⟨f,c,a,b⟩:=F.ex;⟨f,c,a.mono h,b⟩
theorem Zct{X}{C}{m}{ps:List _}{k}{sp}{o e}{es:List _}{ta}{t:TA}{apos pos:Pos}{pl:Sem _}(F:MeE X.prog X.w X.K X.mg X.base C m ps k sp)(hr:Room k X.A)(he:PE X o ta)(ha:PA X (e::es) t)
  (h1:ZV e=true:=by rfl)(h2:es.all ZV=true:=by rfl)
  (ht:eval (.Call (.Attribute o m apos) (e::es) [] pos) X.env=(do
   let ov<-eval o X.env
   standAt apos.atName
   let(f,first)<-holding [ov] (getMethod ov m pl)
   callWith pos f first (backTo pos (starEach (e::es) X.env)) (backToKw pos (keywordEach [] X.env))):=by rfl):
  PE X (.Call (.Attribute o m apos) (e::es) [] pos) (Zjp C m sp [] E0 ta t):=
 let⟨_,_,a,b,c,d⟩:=F.ex;Zfb he c b a hr d .nil Zcu ha (ZY h1) (Zal h2) ht
end L2
namespace My
open PySem L2
theorem Yc{l:List _}(h:0<l.length):l[0]?=some (l.getD 0 0):=by
 simp_all
end My
namespace L2
open PySem PySem.Spec PyProof.Rows
theorem ZdM{K}{a}{xs}{g:TG}{tb:TS}{D:Ends}{σ:St}{H:Hp}(Pv:Nat->St->Hp->Prop)(h0:Pv 0 σ H)(hl:∀i σ H,i<=xs.length->Pv i σ H->SqT K H a xs)
  (hs:∀i x σ H,xs[i]?=some x->Pv i σ H->∀T H1,Same H H1->H1 T=some (.tup [.int i,x])->g (.ref T) σ H1 fun σ2 H2=>tb {D with nx:=Pv (i+1),ct:=Pv (i+1),bk:=D.nx} σ2 H2) (hd:∀σ H,Pv xs.length σ H->D.nx σ H):
  ∃W:Nat->Nat->St->Hp->Prop,(∃m,W 0 m σ H)/\∀i m σ H,W i m σ H->
   ((Ite K a).stop i H/\D.nx σ H)\/((Ite K a).go i H/\∃N:St->Hp->Prop,(∀σ' H',N σ' H'->∃m',m'<m/\W (i+1) m' σ' H')/\∀x H',(Ite K a).yld i H x H'->g x σ H' fun σ2 H2=>tb {D with nx:=N,ct:=N,bk:=D.nx} σ2 H2):=by
 refine⟨fun i m σ H=>m=xs.length-i/\i<=xs.length/\Pv i σ H,⟨xs.length,by simp,QE _,h0⟩,?_⟩;rintro i m σ H ⟨rfl,d,p⟩;have c:=hl i σ H d p;by_cases b:i<xs.length
 ·refine .inr ⟨⟨xs,xs[i],c,by simp[b]⟩,_,fun σ' H' h=>⟨_,by omega,rfl,b,h⟩,fun x H' y=>?_⟩
  obtain⟨T,u,rfl,f,rfl,j⟩:=y;exact hs i u σ H (j xs c) p T _ (Z0 f) Zd
 ·have e:i=xs.length:=by omega
  subst e;exact .inl ⟨⟨xs,c,Qe _⟩,hd σ H p⟩
end L2
namespace My
open PySem L2
theorem Zbm:bootBuiltins "sorted"=some (.builtin "sorted"):=by decide+kernel
def oth(e:Nat×Nat)(x:Nat):Nat:=if e.1=x then e.2 else e.1
theorem ZcU(e)(x):At e (oth e x):=by unfold oth At;split<;>simp
theorem ZkX{e}{x y}(hx:At e x)(hy:At e y):y=x\/y=oth e x:=by
 unfold At at hx hy;unfold oth;split<;>omega
abbrev kN(x:Nat):Key:=Sum.inl x
theorem Ze8{x y}(h:kN x=kN y):x=y:=by grind
section
variable{P:Program}{w:World}{K:PySem.W.Frag}{mg:Str->Option Value}{base:Heap}
abbrev sAc:Stmt:=top 4
inductive spAc(vs:List V)(H:Hp)(Q:VK)(_z3:XK):Prop
 |mk (p:Addr) (n:Nat) (q:Addr) (ts:List V) (es:List (Nat×Nat)) (k x:Nat) (_:vs=[.ref p,.int k,.int x]) (_:NetZ H p n q ts es) (_:k<es.length) (_:Q (.int (oth (es.getD k (0,0)) x)) H)
theorem scAc:Zm ["net","tie","point","ends"] ["net","tie","point"] (Zg sAc):=⟨rfl,rfl,rfl,by decide+kernel,rfl,by decide+kernel,by decide+kernel⟩
theorem Zmx{f}{fd}(F:Fun K "across" "across" sAc f fd):FnOk P w K mg base CX0 1 f fd ["net","tie","point"] spAc:=by
 refine F.ok scAc (fun m H Q E h=>?_) (fun _ A _ s H m Q E _ h=>?_)
 ·obtain⟨p,n,q,l,c,k,x,rfl,_⟩:=h
  rfl
 ·obtain⟨p,n,j,l,c,k,x,rfl,N,e,q⟩:=h
  refine⟨_,Zb (Zl (i:=3) scAc.nd rfl (Or.inl rfl) (Zk Zj (Zk Zj (pv 0) Ze (fun _ _=>rfl)) (pv 1) (fun _ _=>rfl)))
   (Zf (Zn (YH (Zp ZK (Zk Zj (pv 3) Ze (fun _ _=>rfl)) (pv 2) (Zx _)) (Zk Zj (pv 3) Ze (fun _ _=>rfl)) (Zk Zj (pv 3) Ze (fun _ _=>rfl))))),?_⟩
  obtain⟨a,g,b⟩:=N.at' e;refine⟨_,rfl,p,_,_,_,rfl,rfl,SqT.of N.e1,rfl,_,rfl,j,_,_,_,rfl,rfl,SqT.of N.e2,Zv g,_,rfl,a,_,_,_,rfl,rfl,SqT.of b,rfl,_,rfl,rfl,_,rfl,?_⟩;unfold oth at q;refine Z3 (fun d=>?_) (fun d=>?_)
  ·rw[if_pos (show(c.getD k (0,0)).1=x by grind)]at q
   exact⟨_,rfl,a,_,_,_,rfl,rfl,SqT.of b,rfl,q⟩
  ·rw[if_neg (show¬(c.getD k (0,0)).1=x from fun z=>d (Qu (by rw[z])))]at q
   exact⟨_,rfl,a,_,_,_,rfl,rfl,SqT.of b,rfl,q⟩
end
structure Rows(H0 H:Hp)(d:Addr)(kvs:List (Key×V))(R:Nat->Nat->Prop)(b:Nat):Prop where
 dd:H d=some (.dK kvs)
 dn:H0 d=none
 s:Same H0 H
 len:kvs.length<=b
 row:∀x v,ZD kvs (kN x)=some v->∃l ks,v= .ref l/\H0 l=none/\H l=some (.lst (nl ks))/\(∀k,k∈ks↔R k x)/\ks.length<=b
 no:∀x,ZD kvs (kN x)=none->∀k,¬R k x
 inj:∀x y l,ZD kvs (kN x)=some (.ref l)->ZD kvs (kN y)=some (.ref l)->x=y
theorem Rows.iff{H0 H}{d}{kvs}{R S}{b}(h:Rows H0 H d kvs R b)(e:∀k x,R k x↔S k x):Rows H0 H d kvs S b:=
 {h with row:=fun x v c=>let⟨l,i,j,a,g,n,f⟩:=h.row x v c;⟨l,i,j,a,g,fun k=>(n k).trans (e k x),f⟩,no:=fun x m k=>fun z=>h.no x m k ((e k x).mpr z)}
theorem Rows.same{H0 H H'}{d}{kvs}{R}{b}(h:Rows H0 H d kvs R b)(s:Same H H'):Rows H0 H' d kvs R b:=
 {h with dd:=s _ _ h.dd,s:=Same.trans h.s s,row:=fun x v c=>let⟨l,g,e,a,i,j,f⟩:=h.row x v c;⟨l,g,e,a,s _ _ i,j,f⟩}
theorem Rows.mono{H0 H}{d}{kvs}{R}{b c}(h:Rows H0 H d kvs R b)(hb:b<=c):Rows H0 H d kvs R c:=
 {h with len:=QM h.len hb,row:=fun x v e=>let⟨l,g,i,a,j,k,f⟩:=h.row x v e;⟨l,g,i,a,j,k,QM f hb⟩}
theorem Rows.add{H0 H}{d l}{kvs}{R}{b x t}{ks}(h:Rows H0 H d kvs R b)(hv:ZD kvs (kN x)=some (.ref l))(hl:H l=some (.lst (nl ks)))(hk:∀k,k∈ks↔R k x) (hb:ks.length<=b) (hn:H0 l=none):
  Rows H0 (upd H l (.lst (nl (ks++[t])))) d kvs (fun k y=>R k y\/(k=t/\y=x)) (b+1):=by
 refine⟨by rw[Zi (show d≠l from fun z=>by rw[<-z,h.dd]at hl;cases hl)];exact h.dd,h.dn,h.s.wr hn,by have:=h.len;omega,fun y v a=>?_,fun y a k z=>?_,h.inj⟩
 ·obtain⟨c,_,rfl,g,f,_,_⟩:=h.row y v a
  by_cases e:y=x
  ·subst e
   rw[hv]at a;cases a;refine⟨l,_,rfl,hn,Zd,fun k=>?_,by simp_all⟩
   simp_all
  ·refine⟨c,_,rfl,g,by rw[Zi (show c≠l from fun z=>e (h.inj y x l (by simp_all) hv))];exact f,fun k=>?_,by omega⟩
   simp_all
 ·rcases z with z|⟨_,z⟩
  ·exact h.no y a k z
  ·simp_all
theorem Rows.new{H0 H}{d l}{kvs}{R}{b x}(h:Rows H0 H d kvs R b)(hx:ZD kvs (kN x)=none)(hl:H l=some (.lst (nl [])))(hn:H0 l=none)(hnew:∀y,ZD kvs (kN y)≠some (.ref l)):Rows H0 (upd H d (.dK (putK kvs (kN x) (.ref l)))) d (putK kvs (kN x) (.ref l)) R (b+1):=by
 have _:=ZT kvs (kN x) (V.ref l);refine⟨Zd,h.dn,h.s.wr h.dn,by have:=h.len;omega,fun y v a=>?_,fun y a k=>?_,fun y z m a c=>?_⟩
 ·rw[Yp]at a
  by_cases e:kN y=kN x
  ·rw[if_pos e]at a
   cases a
   have:=Ze8 e;subst this;exact⟨l,[],rfl,hn,by rw[Zi (show l≠d from fun z=>by rw[z,h.dd]at hl;cases hl)];exact hl,fun k=>⟨fun z=>(by cases z),fun z=>absurd z (h.no y hx k)⟩,QE _⟩
  ·rw[if_neg e]at a
   obtain⟨g,_,n,j,f,o,_⟩:=h.row y v a;exact⟨g,_,n,j,by rw[Zi (show g≠d from fun z=>by rw[z,h.dd]at f;cases f)];exact f,o,by omega⟩
 ·rw[Yp]at a
  by_cases e:kN y=kN x
  ·simp_all
  ·rw[if_neg e]at a;exact h.no y a k
 ·rw[Yp]at a c
  by_cases e:kN y=kN x
  ·grind
  ·by_cases i:kN z=kN x
   ·simp_all
   ·rw[if_neg e]at a
    rw[if_neg i]at c;exact h.inj y z m a c
def Rel(es:List (Nat×Nat))(tl:List (Option Nat))(u v i k x:Nat):Prop:=k<i/\InP tl u v k/\At (es.getD k (0,0)) x
theorem Rel.skip{es}{tl}{u v i}(h:¬InP tl u v i)(k x):Rel es tl u v i k x↔Rel es tl u v (i+1) k x:=by
 constructor
 ·rintro⟨a,b,c⟩;exact⟨by omega,b,c⟩
 ·rintro⟨a,b,c⟩
  by_cases e:k=i
  ·simp_all
  ·exact⟨by omega,b,c⟩
theorem Rel.take{es}{tl}{u v i}(h:InP tl u v i)(k x):((Rel es tl u v i k x\/(k=i/\x=(es.getD i (0,0)).1))\/(k=i/\x=(es.getD i (0,0)).2))↔Rel es tl u v (i+1) k x:=by
 constructor
 ·rintro((⟨a,b,c⟩|⟨rfl,rfl⟩)|⟨rfl,rfl⟩)
  ·exact⟨by omega,b,c⟩
  ·exact⟨by omega,h,.inl rfl⟩
  ·exact⟨by omega,h,.inr rfl⟩
 ·rintro⟨a,b,c⟩
  by_cases e:k=i
  ·subst e
   rcases c with rfl|rfl
   ·simp_all
   ·simp_all
  ·exact .inl (.inl ⟨by omega,b,c⟩)
def RJ(es:List (Nat×Nat))(tl:List (Option Nat))(u v i:Nat):Nat->Nat->Nat->Prop
 |0=>Rel es tl u v i
 |1=>fun k x=>Rel es tl u v i k x\/(k=i/\x=(es.getD i (0,0)).1)
 |_=>fun k x=>(Rel es tl u v i k x\/(k=i/\x=(es.getD i (0,0)).1))\/(k=i/\x=(es.getD i (0,0)).2)
section
variable{P:Program}{w:World}{K:PySem.W.Frag}{mg:Str->Option Value}{base:Heap}
abbrev sTt:Stmt:=top 7
abbrev nTt:List Str:=["net","tints","one","other","found","tie","tint","point"]
inductive spTt(vs:List V)(H:Hp)(Q:VK)(_z3:XK):Prop
 |mk (p r:Addr) (n:Nat) (q:Addr) (ts:List V) (es:List (Nat×Nat)) (tl:List (Option Nat)) (u v:Nat) (_:vs=[.ref p,.ref r,.int u,.int v]) (_:NetZ H p n q ts es) (_:H r=some (.tup (tv tl))) (_:tl.length=es.length) (_:∀H' d kvs,Rows H H' d kvs (Rel es tl u v es.length) 1000->Q (.ref d) H')
theorem scTt:Zm nTt ["net","tints","one","other"] (Zg sTt):=⟨rfl,rfl,rfl,by decide+kernel,rfl,by decide+kernel,by decide+kernel⟩
theorem ZlP{f}{fd}(F:Fun K "two_tinted" "two_tinted" sTt f fd)(T:Bi mg)(hen:mg "enumerate"=none):FnOk P w K mg base CX0 1 f fd ["net","tints","one","other"] spTt:=by
 refine F.ok scTt (fun vs H Q E h=>?_) (fun cdv A outer s H vs Q E hr h=>?_)
 ·obtain⟨p,r,n,q,ts,es,tl,u,v,rfl,_⟩:=h
  rfl
 ·obtain⟨p,r,n,qa,ts,es,tl,u,v,rfl,N,hR,htl,q⟩:=h
  refine⟨_,Zb (Zl (i:=4) scTt.nd rfl (Or.inl rfl) Zap)
   (Zb (ZG QD rfl (ZcS rfl hen (Zc (pv 1) Za) rfl) (ZaC rfl (ZP (Zu (i:=5) scTt.nd rfl (Or.inl rfl)) (ZP (Zu (i:=6) scTt.nd rfl (Or.inl rfl)) Ji)))
    (Zf (Z2 (PW.pt (pw_or (Zp ZK (pv 6) (pv 2) (Zx _)) (pw_or1 (Zp ZK (pv 6) (pv 3) (Zx _)))))
     (Zf (ZG QD rfl (Y8 (Zk Zj (Zk Zj (pv 0) Ze (fun _ _=>rfl)) (pv 5) (fun _ _=>rfl))) (Zu (i:=7) scTt.nd rfl (Or.inl rfl))
      (Zf (ZF (Y6 QB QG QH ZC (ZgS (pv 4) (pv 7) (ZI Za) ⟨rfl,rfl,rfl,rfl⟩) (Zc (pv 5) Za)))))) Zw)))
   (Zf (Zn (pv 4)))),?_⟩
  have h200:=N.l200;intro d hd;have R0:Rows H (upd H d (.dK [])) d [] (Rel es tl u v 0) 0:=⟨Zd,hd,Zh hd,Qe _,(fun x v z=>by cases z),fun x _ k z=>absurd z.1 (QK _),fun x y l z=>by cases z⟩;have step:∀(G)(B)(R)(b i x)(w6)(Qp),b<=900->Rows H G d B R b->
    (∀v G' kvs',Rows H G' d kvs' (fun k y=>R k y\/(k=i/\y=x)) (b+2)->Qp v G')->
    tBM K "list" rAppend (ZcI (Zaj 4) (Zaj 7) (Zin tNil)) (Zbv (Zaj 5) tNil) [some (.ref p),some (.ref r),some (.int u),some (.int v),some (.ref d),some (.int i),w6,some (.int x)] G Qp:=by
   refine fun G B R b i x w6 Qp hb RR fin=>⟨_,rfl,d,rfl,.inl ⟨B,.inl RR.dd⟩,_,rfl,QE _,fun l hl=>⟨B,kN x,Zh hl _ _ RR.dd,rfl,by have:=RR.len;omega,fun y hy=>?_,fun hn=>?_⟩⟩
   ·have RR1:=RR.same (Zh (o:= .lst []) hl)
    obtain⟨l2,ks,rfl,a2,a3,a4,a5⟩:=RR1.row x y hy;refine⟨.inl ⟨rfl,_,SqL.of a3⟩,_,rfl,l2,_,_,rfl,rfl,a3,(by rw[Zy,QP];omega),fin _ _ B ?_⟩;rw[nl_app];exact(RR1.add hy a3 a4 a5 a2).mono (by omega)
   ·have RR1:=RR.same (Zh (o:= .lst []) hl)
    have hl0:=RR.s.none hl;have RR2:=RR1.new (l:=l) hn Zd hl0 fun y z=>by
     obtain⟨l2,ks,e1,a2,a3,_⟩:=RR.row y _ z;cases e1;rw[a3]at hl;cases hl
    have hL:(upd (upd G l (.lst [])) d (.dK (putK B (kN x) (.ref l)))) l=some (.lst (nl [])):=by rw[Zi (show l≠d from fun z=>by rw[z,RR.dd]at hl;cases hl),Zd];rfl
    refine⟨.inl ⟨rfl,_,SqL.of hL⟩,_,rfl,l,_,_,rfl,rfl,hL,(by rw[Zy,QP];exact Qs (by decide) (Qe _)),fin _ _ (putK B (kN x) (.ref l)) ?_⟩;rw[nl_app];exact RR2.add (by rw[Yp,if_pos rfl]) hL (fun k=>⟨fun z=>(by cases z),fun z=>absurd z (RR.no x hn k)⟩) (QE _) hl0
  refine⟨_,rfl,r,rfl,⟨_,SqT.of (R0.s _ _ hR)⟩,ZdM (K:=K) (a:=r) (xs:=tv tl) (fun i σ H'=>E4 fun B v5 v6 v7=>σ=[some (.ref p),some (.ref r),some (.int u),some (.int (v:Int)),some (.ref d),v5,v6,v7]/\Rows H H' d B (Rel es tl u v i) (4*i)) ⟨[],_,_,_,rfl,R0⟩ (fun i σ H' _⟨B,_,_,_,_,RR⟩=>SqT.of (RR.s _ _ hR)) (fun i x σ H' hx xq1 TT H1 s1 hTT=>?_) (fun σ H' xq1=>?_)⟩
  ·obtain⟨B,v5,v6,v7,e,RR⟩:=xq1
   subst e;obtain⟨o,ho,rfl⟩:=Zea hx;have hit:=(Qd.mp ho).1;obtain⟨a,ha,hta⟩:=N.at' (show i<es.length by omega);have RR1:=RR.same s1;refine⟨TT,_,rfl,SqT.of hTT,rfl,_,_,rfl,_,_,rfl,rfl,?_⟩;have inner:∀(t:Nat)(Dn:Ends),InP tl u v i->(∀G B v7,Rows H G d B (Rel es tl u v (i+1)) (4*(i+1))->Dn.nx [some (.ref p),some (.ref r),some (.int (u:Int)),some (.int (v:Int)),some (.ref d),some (.int (i:Int)),some (.int (t:Int)),v7] G)->
     Zlm (Zm7 K (tOp (ZfP K) (tOp (ZfP K) (Zaj 0) (tC (.int 1))) (Zaj 5))) (ZaZ 7) (fun D σ H=>tBM K "list" rAppend (ZcI (Zaj 4) (Zaj 7) (Zin tNil)) (Zbv (Zaj 5) tNil) σ H fun _ H'=>D.nx σ H') Dn [some (.ref p),some (.ref r),some (.int (u:Int)),some (.int (v:Int)),some (.ref d),some (.int (i:Int)),some (.int (t:Int)),v7] H1:=by
    refine fun t Dn hin fin=>⟨_,rfl,p,_,_,_,rfl,rfl,SqT.of (RR1.s _ _ N.e1),rfl,_,rfl,qa,_,_,_,rfl,rfl,SqT.of (RR1.s _ _ N.e2),Zv ha,a,rfl,⟨_,SqT.of (RR1.s _ _ hta)⟩,Y5 (K:=K) (a:=a) (xs:=[.int ((es.getD i (0,0)).1:Int),.int ((es.getD i (0,0)).2:Int)]) (g:=ZaZ 7) (tb:=fun D σ H=>tBM K "list" rAppend (ZcI (Zaj 4) (Zaj 7) (Zin tNil)) (Zbv (Zaj 5) tNil) σ H fun _ H'=>D.nx σ H') (D:=Dn)
     (fun j σ G=>∃kvs' w7,σ=[some (.ref p),some (.ref r),some (.int (u:Int)),some (.int (v:Int)),some (.ref d),some (.int (i:Int)),some (.int (t:Int)),w7]/\Rows H G d kvs' (RJ es tl u v i j) (4*i+2*j))
     ⟨B,_,rfl,RR1⟩ (fun j σ G _⟨_,_,_,RG⟩=>SqT.of (RG.s _ _ hta)) (fun j x σ G hx' xq1=>?_) (fun σ G xq1=>?_)⟩
    ·obtain⟨kvs',w7,e,RG⟩:=xq1
     subst e
     match j,hx' with
     |0,hx'=>
      cases hx'
      exact step G kvs' _ (4*i+2*0) i _ _ _ (by omega) RG fun _ G' kvs2 R2=>⟨kvs2,_,rfl,R2⟩
     |1,hx'=>
      cases hx'
      exact step G kvs' _ (4*i+2*1) i _ _ _ (by omega) RG fun _ G' kvs2 R2=>⟨kvs2,_,rfl,R2⟩
    ·obtain⟨kvs',w7,e,RG⟩:=xq1
     subst e;exact fin G kvs' _ ((RG.iff fun k x=>Rel.take hin k x).mono (by show 4*i+2*2<=4*(i+1);omega))
   cases o with
   |none=>
    have hnot:¬InP tl u v i:=fun z=>by rcases z with z|z<;>rw[ho]at z<;>cases z
    exact⟨_,rfl,_,rfl,rfl,_,rfl,ZA ⟨_,rfl,_,rfl,rfl,_,rfl,ZA ⟨B,_,_,_,rfl,(RR1.iff (Rel.skip hnot)).mono (by omega)⟩⟩⟩
   |some t=>
    refine⟨_,rfl,_,rfl,rfl,_,rfl,Z3 (fun hz=>?_) (fun hz=>?_)⟩
    ·have e:t=u:=by have:=V.int.inj (Qr hz);omega
     subst e;exact Yi (inner t _ (.inl ho) fun G kvs2 w7 R2=>⟨kvs2,_,_,_,rfl,R2⟩)
    ·refine⟨_,rfl,_,rfl,rfl,_,rfl,Z3 (fun hz2=>?_) (fun hz2=>?_)⟩
     ·have e:t=v:=by have:=V.int.inj (Qr hz2);omega
      subst e;exact inner t _ (.inr ho) fun G kvs2 w7 R2=>⟨kvs2,_,_,_,rfl,R2⟩
     ·have hnot:¬InP tl u v i:=fun z=>by
       rcases z with z|z<;>rw[ho]at z<;>have:=Option.some.inj (Option.some.inj z)
       ·exact(show t≠u from fun z=>hz (Qu (by subst z;rfl))) this
       ·exact(show t≠v from fun z=>hz2 (Qu (by subst z;rfl))) this
      exact⟨B,_,_,_,rfl,(RR1.iff (Rel.skip hnot)).mono (by omega)⟩
  ·obtain⟨B,v5,v6,v7,e,RR⟩:=xq1
   subst e;rw[ZaA,htl]at RR;exact⟨_,rfl,q H' d B (RR.mono (by omega))⟩
end
theorem Walk.init{es:List (Nat×Nat)}{tl:List (Option Nat)}{u v p}:Walk es tl u v p (·∈([]:List Nat)) (fun _=>False) (·∈[p]):=
 ⟨(fun k h=>by cases h),(fun x h=>by rw[Qf.mp h];exact .start),(fun x h=>h.elim),(fun k h=>by cases h),.inr (Qf.mpr rfl)⟩
theorem Walk.pop{es:List (Nat×Nat)}{tl:List (Option Nat)}{u v p x}{F V:Nat->Prop}{w':List _}(h:Walk es tl u v p F V (·∈w'++[x])):Walk es tl u v p F V (fun y=>y∈w'\/y=x):=by
 simp_all
theorem Walk.add{es:List (Nat×Nat)}{tl:List (Option Nat)}{u v p x k}{fk wl:List _}{V:Nat->Prop}(h:Walk es tl u v p (·∈fk) V (fun y=>y∈wl\/y=x)) (hk:k<es.length) (hi:InP tl u v k) (hx:At (es.getD k (0,0)) x):
  Walk es tl u v p (·∈fk++[k]) V (fun y=>y∈wl++[oth (es.getD k (0,0)) x]\/y=x):=by
 have g:RT es tl u v p k:=⟨hk,hi,x,(h.rw x (.inr rfl)),hx⟩;refine⟨fun j c=>?_,fun y a=>?_,fun y a j d i f=>Qz _ (h.cl y a j d i f),fun j c y a=>?_,h.st.imp id fun z=>z.imp (Qz _) id⟩
 ·rcases Qw.mp c with z|z
  ·exact h.rt j z
  simp_all
 ·rcases a with a|a
  ·rcases Qw.mp a with z|z
   ·exact h.rw y (.inl z)
   ·rw[Qf.mp z];exact g.end (ZcU _ _)
  ·exact h.rw y (.inr a)
 ·rcases Qw.mp c with z|z
  ·exact(h.en j z y a).imp id fun z=>z.imp (Qz _) id
  ·rw[Qf.mp z]at a
   rcases ZkX hx a with e|e
   ·exact .inr (.inr e)
   ·simp_all
theorem Walk.close{es:List (Nat×Nat)}{tl:List (Option Nat)}{u v p x}{F V:Nat->Prop}{wl:List _}(h:Walk es tl u v p F V (fun y=>y∈wl\/y=x)) (hx:∀k,k<es.length->InP tl u v k->At (es.getD k (0,0)) x->F k):
  Walk es tl u v p F (fun y=>V y\/y=x) (·∈wl):=by
 refine⟨h.rt,fun y b=>h.rw y (.inl b),fun y b k e f d=>?_,fun k g y b=>?_,?_⟩
 ·rcases b with b|rfl
  ·exact h.cl y b k e f d
  ·exact hx k e f d
 ·rcases h.en k g y b with z|z|z
  ·exact .inl (.inl z)
  ·exact .inr z
  ·exact .inl (.inr z)
 ·rcases h.st with z|z|z
  ·exact .inl (.inl z)
  ·exact .inr z
  ·exact .inl (.inr z)
theorem vin{kf:List (Key×V)}{fk:List _}(h:kf.map (·.1)=fk.map kN)(k:Nat):(ZD kf (kN k)).isSome=true↔k∈fk:=by
 rw[<-YD,UK];constructor
 ·rintro⟨c,b,e⟩
  have:c.1∈fk.map kN:=by grind
  obtain⟨j,g,d⟩:=QQ.mp this;rw[(Qr e)]at d;rw[<-Ze8 d];exact g
 ·intro f
  have:kN k∈kf.map (·.1):=by rw[h];exact List.mem_map_of_mem f
  obtain⟨c,b,e⟩:=QQ.mp this;exact⟨c,b,Qu e⟩
theorem ZaJ{l:List _}{n:Nat}(nd:l.Nodup)(h:∀x∈l,x<n):l.length<=n:=by
 have a:∀(n:Nat)(l:List _),l.Nodup->(∀x∈l,x<n)->l.length<=n:=by
  intro n
  induction n with
  |zero=>intro l _ h;cases l with|nil=>exact Qe _|_ x l=>exact absurd (h x (.head _)) (QK _)
  |_ n b=>
   intro l nd h;have _:=b _ (nd.erase n) fun x _=>by
    grind
   grind
 exact a n l nd h
structure Zg0(Ht G:Hp)(fo wa:Addr)(m:Nat)(fk wl:List Nat):Prop where
 s:Same Ht G
 w:G wa=some (.lst (nl wl))
 f:∃kf:List (Key×V),G fo=some (.dK kf)/\kf.map (·.1)=fk.map kN
 nd:fk.Nodup
 lt:∀k∈fk,k<m
 bd:2*(m-fk.length)+wl.length<=2*m+1
section
variable{P:Program}{w:World}{K:PySem.W.Frag}{mg:Str->Option Value}{base:Heap}
abbrev sCh:Stmt:=top 8
abbrev nCh:List Str:=["net","tints","point","one","other","ties","found","waiting","here","tie"]
inductive spCh(vs:List V)(H:Hp)(Q:VK)(_z3:XK):Prop
 |mk (p r:Addr) (n:Nat) (q:Addr) (ts:List V) (es:List (Nat×Nat)) (tl:List (Option Nat)) (pt u v:Nat) (_:vs=[.ref p,.ref r,.int (pt:Int),.int (u:Int),.int (v:Int)]) (_:NetZ H p n q ts es) (_:H r=some (.tup (tv tl))) (_:tl.length=es.length) (_:es.length<64) (_:∀H' t S,Same H H'->H' t=some (.tup (nl S))->S.Pairwise (·<·)->(∀k,k∈S↔RT es tl u v pt k)->Q (.ref t) H')
theorem scCh:Zm nCh ["net","tints","point","one","other"] (Zg sCh):=⟨rfl,rfl,rfl,by decide+kernel,rfl,by decide+kernel,by decide+kernel⟩
theorem Zms{f}{fd}(F:Fun K "chain" "chain" sCh f fd)(T:Bi mg)(hso:mg "sorted"=none)(FT:FnE P w K mg base "two_tinted" ["net","tints","one","other"] 1 spTt)(FA:FnE P w K mg base "across" ["net","tie","point"] 1 spAc):FnOk P w K mg base CX0 2 f fd ["net","tints","point","one","other"] spCh:=by
 refine F.ok scCh (fun vs H Q E h=>?_) (fun cdv A outer s H vs Q E hr h=>?_)
 ·obtain⟨p,r,n,q,ts,es,tl,pt,u,v,rfl,_⟩:=h
  rfl
 ·obtain⟨p,r,n,qa,ts,es,tl,pt,u,v,rfl,N,hR,htl,h64,q⟩:=h
  have hu:=Zc3 hr;refine⟨_,Zb (Zl (i:=5) scCh.nd rfl (Or.inl rfl) (Zs FT hr (Zc (pv 0) (Zc (pv 1) (Zc (pv 3) (Zc (pv 4) Za))))))
   (Zb (Zl (i:=6) scCh.nd rfl (Or.inl rfl) Zap)
   (Zb (Zl (i:=7) scCh.nd rfl (Or.inl rfl) (ZI (Zc (pv 2) Za)))
   (Zb (J6 QD (YU (pv 7) (fun _=>rfl))
    (Zb (Zl (i:=8) scCh.nd rfl (Or.inl rfl) (ZgW QB PySem.F.slot_list_pop PySem.F.type_list_pop Zhg (pv 7)))
    (Zf (ZG QD rfl (JI (Zd6 hu (pv 5) (pv 8) (ZI Za) ⟨rfl,rfl,rfl,rfl⟩)) (Zu (i:=9) scCh.nd rfl (Or.inl rfl))
     (Zf (Z2 (J1 (ZaD hu (pv 9) (pv 6)))
      (Zb (Jh hu (pv 6) (pv 9) YV rfl)
      (Zf (ZF (Y6 QB QG QH ZC (pv 7) (Zc (Zs FA hr (Zc (pv 0) (Zc (pv 9) (Zc (pv 8) Za)))) Za))))) Zw))))))
   (Zf (Zn (Z8 Z6 rfl T.tuple Y2 (Zc (Zo (Za3 hr) rfl hso Zbm (Zc (pv 6) Za)) Za))))))),_,rfl,_,rfl,_,rfl,_,rfl,p,r,n,qa,ts,es,tl,u,v,rfl,N,hR,htl,fun Ht d kvs RW=>(fun fo hfo=>⟨_,rfl,(by show 1<=sizeLine;decide),fun wa hwa=>?_⟩)⟩
  have hwt:=(show∀{wa:Addr},(upd Ht fo (.dK [])) wa=none->Ht wa=none from fun h=>(Zh hfo).none h) hwa;have hfw:fo≠wa:=fun z=>by rw[<-z,Zd]at hwa;cases hwa
  refine⟨fun m σ H'=>E5 fun fk wl V v8 v9=>m=2*(es.length-fk.length)+wl.length/\σ=[some (.ref p),some (.ref r),some (.int (pt:Int)),some (.int (u:Int)),some (.int (v:Int)),some (.ref d),some (.ref fo),some (.ref wa),v8,v9]/\Zg0 Ht H' fo wa es.length fk wl/\Walk es tl u v pt (·∈fk) V (·∈wl),
   ⟨_,[],[pt],_,none,none,rfl,rfl,(show Zg0 Ht (upd (upd Ht fo (.dK [])) wa (.lst [.int (pt:Int)])) fo wa es.length [] [pt]from⟨(Zh hfo).wr hwt,by rw[Zd];rfl,⟨[],by rw[Zi hfw,Zd],rfl⟩,Q4,(fun k hk=>by cases hk),Qe _⟩),Walk.init⟩,?_⟩
  rintro m σ H' ⟨fk,wl,VV,v8,v9,rfl,rfl,C,WW⟩;have hfl:=ZaJ C.nd C.lt;refine⟨_,rfl,_,.inl ⟨_,SqL.of C.w,rfl⟩,Z3 (fun hz=>?_) (fun hz=>?_)⟩
  ·obtain⟨w',x,rfl⟩:∃w' x,wl=w'++[x]:=by
    rcases List.eq_nil_or_concat wl with e|⟨w',x,e⟩
    ·subst e;cases hz
    ·exact⟨w',x,by rw[e,List.concat_eq_append]⟩
   have hwl:nl (w'++[x])=nl w'++[.int (x:Int)]:=(nl_app w' x).symm;refine⟨fun σ' H''=>∃m',m'<2*(es.length-fk.length)+(w'++[x]).length/\E5 fun fk wl V v8 v9=>m'=2*(es.length-fk.length)+wl.length/\σ'=[some (.ref p),some (.ref r),some (.int (pt:Int)),some (.int (u:Int)),some (.int (v:Int)),some (.ref d),some (.ref fo),some (.ref wa),v8,v9]/\Zg0 Ht H'' fo wa es.length fk wl/\Walk es tl u v pt (·∈fk) V (·∈wl),fun _ _ h=>h,_,rfl,.inl ⟨rfl,_,SqL.of C.w⟩,wa,_,.int (x:Int),rfl,rfl,C.w,(by rw[hwl,Qk,QF,Nat.add_sub_cancel,Q0 (Qe _),Vh];rfl),?_⟩;rw[(show(nl (w'++[x])).dropLast=nl w' by rw[hwl,List.dropLast_concat])];obtain⟨kf0,hkf0,hkk0⟩:=C.f;have C1:Zg0 Ht (upd H' wa (.lst (nl w'))) fo wa es.length fk w':=⟨C.s.wr hwt,Zd,⟨kf0,by rw[Zi hfw];exact hkf0,hkk0⟩,C.nd,C.lt,(by have:=C.bd;rw[Qk]at this;omega)⟩;have hd1:=C1.s _ _ RW.dd;refine⟨_,rfl,d,rfl,.inl ⟨kvs,.inl hd1⟩,_,rfl,QE _,fun l0 hl0=>⟨_,DGet.k (k:=kN x) (Zh hl0 _ _ hd1),?_⟩⟩;have s0:Same (upd H' wa (.lst (nl w'))) (upd (upd H' wa (.lst (nl w'))) l0 (.lst [])):=Zh hl0;obtain⟨la,ks,hval,hla,hks,hlw,hlf⟩:∃la ks,(ZD kvs (kN x)).getD (V.ref l0)= .ref la/\(upd (upd H' wa (.lst (nl w'))) l0 (.lst [])) la=some (.lst (nl ks))/\(∀k,k∈ks↔Rel es tl u v es.length k x)/\la≠wa/\la≠fo:=by
    cases hv:ZD kvs (kN x)with
    |none=>
     refine⟨l0,[],rfl,Zd,fun k=>⟨fun z=>(by cases z),fun z=>absurd z (RW.no x hv k)⟩,fun z=>?_,fun z=>?_⟩
     ·rw[z,C1.w]at hl0;cases hl0
     ·obtain⟨kf,a,_⟩:=C1.f
      rw[z,a]at hl0;cases hl0
    |some y=>
     obtain⟨l2,ks,rfl,_,a3,a4,_⟩:=RW.row x y hv;exact⟨l2,ks,rfl,s0 _ _ (C1.s _ _ a3),a4,Zq a3 hwt,Zq a3 hfo⟩
   rw[hval];refine⟨la,rfl,⟨_,SqL.of hla⟩,Za0 (K:=K) (a:=la) (xs:=nl ks) (fun j σ G=>E3 fun o wl' w9=>σ=[some (.ref p),some (.ref r),some (.int (pt:Int)),some (.int (u:Int)),some (.int (v:Int)),some (.ref d),some (.ref fo),some (.ref wa),some (.int (x:Int)),w9]/\Zg0 Ht G fo wa es.length o wl'/\G la=some (.lst (nl ks))/\Walk es tl u v pt (·∈o) VV (fun y=>y∈wl'\/y=x)/\(∀j' k,j'<j->ks[j']?=some k->k∈o)/\2*(es.length-o.length)+wl'.length<=2*(es.length-fk.length)+w'.length)
    ⟨fk,w',_,rfl,(show Zg0 Ht (upd (upd H' wa (.lst (nl w'))) l0 (.lst [])) fo wa es.length fk w' from⟨Same.trans C1.s s0,s0 _ _ C1.w,(let⟨kf,a,b⟩:=C1.f;⟨kf,s0 _ _ a,b⟩),C1.nd,C1.lt,C1.bd⟩),hla,WW.pop,(fun j' k z=>absurd z (QK _)),Qe _⟩ (fun j σ G _⟨_,_,_,_,_,z,_⟩=>SqL.of z) (fun j y σ G hy xq1=>?_) (fun σ G xq1=>?_)⟩
   ·obtain⟨o,wl',w9,e,CG,gl,WG,hin,hms⟩:=xq1
    subst e;obtain⟨k,hk,rfl⟩:∃k,ks[j]?=some k/\y=V.int (k:Int):=by
     unfold nl at hy;rw[Qx]at hy;cases z:ks[j]? with
     |none=>rw[z]at hy;cases hy
     |some k=>rw[z]at hy;cases hy;exact⟨k,rfl,rfl⟩
    obtain⟨hke,hkp,hkx⟩:=(hks k).mp (Qj hk);obtain⟨kf,hkf,hkk⟩:=CG.f;have hkl:kf.length=o.length:=by have:=UZ List.length hkk;simpa using this
    refine⟨_,rfl,_,rfl,fo,_,rfl,DGet.k (k:=kN k) hkf,_,rfl,Z3 (fun hz=>?_) (fun hz=>?_)⟩
    ·have hno:k ∉ o:=fun z=>by rw[(vin hkk k).mpr z]at hz;cases hz
     have hnone:ZD kf (kN k)=none:=by
      cases z:ZD kf (kN k)with
      |none=>rfl
      |some y=>rw[z]at hz;cases hz
     have hnd:(o++[k]).Nodup:=by
      rw[Ud];exact⟨CG.nd,QN.mpr ⟨Qt,Q4⟩,fun a ha b hb z=>by rw[Qf]at hb;subst hb z;exact hno ha⟩
     have hlt:∀a∈o++[k],a<es.length:=fun a ha=>by
      rcases Qw.mp ha with z|z
      ·exact CG.lt a z
      ·rw[Qf.mp z];exact hke
     have hl3:(o++[k]).length<=es.length:=ZaJ hnd hlt;rw[Qk,QF]at hl3;refine⟨_,rfl,_,rfl,fo,_,rfl,DPut.k (k:=kN k) hkf (by rw[QP];omega),?_⟩;have hw3:(upd G fo (.dK (putK kf (kN k) (V.bl true)))) wa=some (.lst (nl wl')):=by rw[Zi (Ne.symm hfw)];exact CG.w
     have sN:Same H (upd G fo (.dK (putK kf (kN k) (V.bl true)))):=Same.trans RW.s (CG.s.wr hfo);refine⟨_,rfl,.inl ⟨rfl,_,SqL.of hw3⟩,_,rfl,_,rfl,_,rfl,p,n,qa,ts,es,k,x,rfl,N.same sN,hke,wa,_,_,rfl,rfl,hw3,(by have:=CG.bd;rw[Zy,QP];omega),?_⟩;rw[nl_app];refine⟨o++[k],wl'++[oth (es.getD k (0,0)) x],_,rfl,⟨(CG.s.wr hfo).wr hwt,Zd,⟨putK kf (kN k) (V.bl true),by rw[Zi hfw,Zd],by rw[Zb3 _ hnone,QO,hkk,QO];rfl⟩,hnd,hlt,(by have:=CG.bd;rw[Qk,Qk,QF,QF];omega)⟩,by rw[Zi hlw,Zi hlf];exact gl,WG.add hke hkp hkx,fun j' k' hj' hk'=>?_,?_⟩
     ·by_cases e:j'=j
      ·subst e
       rw[hk]at hk';cases hk';exact Qm _ (Qf.mpr rfl)
      ·exact Qz _ (hin j' k' (by omega) hk')
     ·rw[Qk,Qk,QF,QF]
      omega
    ·have hyes:k∈o:=(vin hkk k).mp (by
      cases z:(ZD kf (kN k)).isSome with
      |true=>rfl
      |false=>rw[z]at hz;exact absurd rfl hz)
     refine⟨o,wl',_,rfl,CG,gl,WG,fun j' k' hj' hk'=>?_,hms⟩;by_cases e:j'=j
     ·subst e
      rw[hk]at hk';cases hk';exact hyes
     ·exact hin j' k' (by omega) hk'
   ·obtain⟨o,wl',w9,e,CG,gl,WG,hin,hms⟩:=xq1
    subst e;refine⟨_,?_,o,wl',_,_,_,rfl,rfl,CG,WG.close fun k h1 h2 h3=>?_⟩
    ·rw[Qk,QF]
     omega
    ·obtain⟨j,hj,ej⟩:=QW ((hks k).mpr ⟨h1,h2,h3⟩)
     exact hin j k (by rw[Zy];exact hj) (by rw[Qb hj,ej])
  ·have hwl:wl=[]:=by
    cases wl with
    |nil=>rfl
    |cons x l=>exact absurd rfl hz
   subst hwl;obtain⟨kf,hkf,hkk⟩:=C.f;have hdone:=WW.done (fun x hx=>by cases hx);have hkn:kf.map (·.1)=(fk.map fun x:Nat=>(x:Int)).map Sum.inl:=by rw[hkk,U4];rfl
   refine⟨_,rfl,fo,kf,fk.map fun x:Nat=>(x:Int),rfl,hkf,hkn,by rw[Qq];omega,fun l ns' H2 s2 hl2 hp hs=>⟨l,_,rfl,.inl hl2,fun t H3 s3 ht=>?_⟩⟩;have hnn:∀x∈ns',0<=x:=fun x hx=>by
    obtain⟨y,_,rfl⟩:=QQ.mp (hp.mem_iff.mp hx);omega
   have hnl:ns'.map V.int=nl (ns'.map Int.toNat):=by
    unfold nl;rw[U4];refine U7 fun x hx=>?_;show V.int x=V.int ((x.toNat:Nat):Int);rw[US (hnn x hx)]
   have hmem:∀k:Nat,k∈ns'.map Int.toNat↔k∈fk:=fun k=>by
    rw[QQ];constructor
    ·rintro⟨x,hx,rfl⟩
     obtain⟨y,hy,rfl⟩:=QQ.mp (hp.mem_iff.mp hx);exact hy
    ·exact fun hk=>⟨(k:Int),hp.mem_iff.mpr (List.mem_map_of_mem (f:=fun x:Nat=>(x:Int)) hk),rfl⟩
   have hndI:ns'.Nodup:=hp.nodup_iff.mpr (by
    rw[List.Nodup,Ul];exact List.Pairwise.imp (fun{a b} h z=>h (by omega)) C.nd)
   have hrise:(ns'.map Int.toNat).Pairwise (·<·):=by
    rw[Ul];refine Uz (fun{a b} ha hb h=>?_) (hs.and hndI);have:=hnn a ha;have:=hnn b hb;omega
   rw[hnl]at ht;exact q H3 t _ (Same.trans (Same.trans (Same.trans RW.s C.s) s2) s3) ht hrise fun k=>(hmem k).trans (hdone k)
end
def swp(tl:List (Option Nat))(u v k:Nat):Option Nat:=some (if tl.getD k none=some u then v else u)
def trn(tl:List (Option Nat))(u v:Nat)(S:List Nat):List (Option Nat):=S.foldl (fun r k=>r.set k (swp tl u v k)) tl
theorem Je(tl)(u v)(S:List _):(trn tl u v S).length=tl.length:=by
 have a:∀(S:List _)(r:List _),(S.foldl (fun r k=>r.set k (swp tl u v k)) r).length=r.length:=by
  intro S
  induction S with
  |nil=>intro r;rfl
  |_ k S _=>simp_all
 exact a S tl
theorem Zg6(tl)(u v)(S)(k):trn tl u v (S++[k])=(trn tl u v S).set k (swp tl u v k):=by
 unfold trn;simp_all
theorem ZeQ(tl)(u v)(S)(k):(trn tl u v S)[k]?=if k∈S/\k<tl.length then some (swp tl u v k)else tl[k]?:=by
 have a:∀(S:List _)(r:List _),r.length=tl.length->(S.foldl (fun r k=>r.set k (swp tl u v k)) r)[k]?=if k∈S/\k<tl.length then some (swp tl u v k)else r[k]?:=by
  intro S
  induction S with
  |nil=>grind
  |_ j S c=>
   intro r _;rw[List.foldl_cons,c _ (by simp_all)];by_cases b:k∈S/\k<tl.length
   ·simp_all
   ·rw[if_neg b,Qy]
    by_cases e:j=k
    ·simp_all
    ·grind
 exact a S tl rfl
theorem ZdZ(tl)(k)(o):(tv tl).set k (tN o)=tv (tl.set k o):=by unfold tv;rw[List.map_set]
section
variable{es:List (Nat×Nat)}{tl:List (Option Nat)}{u v p:Nat}{S:List Nat}
theorem Zj4(h:tl[k]?=some o):tl.getD k none=o:=by simp_all
theorem Zdw(h:tl[k]?=some (some u)):swp tl u v k=some v:=by unfold swp;simp_all
theorem Zcq(huv:u≠v)(h:tl[k]?=some (some v)):swp tl u v k=some u:=by
 unfold swp;simp_all
theorem Zm5(h:InP tl u v k):k<tl.length:=by
 rcases h with h|h<;>exact(Qd.mp h).1
theorem Jy(h:k∈S)(hi:InP tl u v k):(trn tl u v S)[k]?=some (swp tl u v k):=by rw[ZeQ,if_pos ⟨h,Zm5 hi⟩]
theorem Yk(h:k ∉ S):(trn tl u v S)[k]?=tl[k]?:=by rw[ZeQ,if_neg fun z=>h z.1]
theorem Zde(huv:u≠v)(hS:∀k∈S,InP tl u v k) (k):InP (trn tl u v S) u v k↔InP tl u v k:=by
 by_cases h:k∈S
 ·have c:=hS k h
  refine⟨fun _=>c,fun _=>?_⟩;rcases c with e|e
  ·exact .inr (by rw[Jy h (.inl e),Zdw e])
  ·exact .inl (by rw[Jy h (.inr e),Zcq huv e])
 ·unfold InP
  rw[Yk h]
theorem JF(huv:u≠v)(hS:∀k,k∈S↔RT es tl u v p k) (hc:CleanTo es tl es.length):CleanTo es (trn tl u v S) es.length:=by
 have q:=fun k G=>((hS k).mp G).2.1;have s:∀i j t,i∈S->j ∉ S->j<es.length->(trn tl u v S)[i]?=some (some t)->(trn tl u v S)[j]?=some (some t)->∀x,At (es.getD i (0,0)) x->¬At (es.getD j (0,0)) x:=by
  intro i j t n C B f d x m l;have F:t=u\/t=v:=by
   rcases((Zde huv q i).mpr (q i n))with e|e
   ·simp_all
   ·simp_all
  have D:InP tl u v j:=by
   rw[Yk C]at d;rcases F with rfl|rfl
   ·exact .inl d
   ·exact .inr d
  exact C ((hS j).mpr ⟨B,D,x,((hS i).mp n).end m,l⟩)
 intro i j t w n f d x m l;by_cases o:i∈S
 ·by_cases g:j∈S
  ·have y:∃z,tl[i]?=some (some z)/\tl[j]?=some (some z):=by
    rw[Jy o (q i o)]at f;rw[Jy g (q j g)]at d;rcases q i o with a|a<;>rcases q j g with b|b
    ·exact⟨u,a,b⟩
    ·rw[Zdw a]at f
     rw[Zcq huv b]at d;exact absurd ((Option.some.inj (Option.some.inj d)).trans (Option.some.inj (Option.some.inj f)).symm) huv
    ·rw[Zcq huv a]at f
     rw[Zdw b]at d;exact absurd ((Option.some.inj (Option.some.inj f)).trans (Option.some.inj (Option.some.inj d)).symm) huv
    ·exact⟨v,a,b⟩
   obtain⟨z,a,b⟩:=y;exact hc i j z w n a b x m l
  ·exact s i j t o g (by omega) f d x m l
 ·by_cases g:j∈S
  ·exact s j i t g o n d f x l m
  ·rw[Yk o]at f
   rw[Yk g]at d;exact hc i j t w n f d x m l
end
theorem Zac(x):∀{S},(∀k∈S,(es.getD k (0,0)).1≠(es.getD k (0,0)).2)->deg es S x=(S.filter fun k=>decide (x=(es.getD k (0,0)).1\/x=(es.getD k (0,0)).2)).length
 |[],_=>rfl
 |k::S,h=>by
  show(if _ then 1 else 0)+(if _ then 1 else 0)+deg es S x=_;rw[Ub,(Zac x fun k a=>h k (.tail _ a))]
  grind
theorem Za1{x k}:∀{S},k∈S->At (es.getD k (0,0)) x->1<=deg es S x
 |j::S,h,a=>by
  show 1<=(if _ then 1 else 0)+(if _ then 1 else 0)+deg es S x;rcases Qn.mp h with rfl|h
  ·rcases a with e|e
   ·grind
   ·grind
  ·have:=Za1 h a
   omega
theorem ZeE:∀{S},1<=deg es S x->∃k∈S,At (es.getD k (0,0)) x
 |[],h=>absurd (show 1<=0 from h) (by decide)
 |j::S,h=>by
  have d:1<=(if(es.getD j _).1=x then 1 else 0)+(if(es.getD j _).2=x then 1 else 0)+deg es S x:=h;by_cases c:(es.getD j (0,0)).1=x
  ·exact⟨j,.head _,.inl c.symm⟩
  ·by_cases b:(es.getD j (0,0)).2=x
   ·exact⟨j,.head _,.inr b.symm⟩
   ·rw[if_neg c,if_neg b]at d
    obtain⟨k,_,z⟩:=ZeE (es:=es) (x:=x) (S:=S) (by omega)
    grind
theorem ZeD{tl}{u v}{S}(nd:S.Nodup)(hk:∀k∈S,k<es.length/\InP tl u v k) (hne:∀k∈S,(es.getD k (0,0)).1≠(es.getD k (0,0)).2) (hc:CleanTo es tl es.length) (x):deg es S x<=2:=by
 rw[Zac x hne];have w:∀k∈S.filter fun k=>decide (x=(es.getD k (0,0)).1\/x=(es.getD k (0,0)).2),k∈S/\At _ x:=fun k hk=>⟨(Q8.mp hk).1,show x=(es.getD k (0,0)).1\/x=(es.getD k (0,0)).2 from Qr (Q8.mp hk).2⟩;have o:(S.filter fun k=>decide (x=(es.getD k (0,0)).1\/x=(es.getD k (0,0)).2)).Nodup:=nd.filter _;generalize(S.filter fun k=>decide (x=(es.getD k (0,0)).1\/x=(es.getD k (0,0)).2))=F at*;have C:(F.map fun k=>if tl[k]?=some (some u)then 0 else 1).Nodup:=by
  unfold List.Nodup;rw[Ul];refine Uz (fun{a b} B E p z=>?_) o;obtain⟨i,m⟩:=w a B;obtain⟨j,l⟩:=w b E;have g:∃t,tl[a]?=some (some t)/\tl[b]?=some (some t):=by
   by_cases D:tl[a]?=some (some u)
   ·simp_all
   ·by_cases G:tl[b]?=some (some u)
    ·simp_all
    ·exact⟨v,(hk a i).2.resolve_left D,(hk b j).2.resolve_left G⟩
  obtain⟨t,r,s⟩:=g;rcases UG a b with h|h|h
  ·exact hc b a t h (hk b j).1 s r x l m
  ·exact p h
  ·exact hc a b t h (hk a i).1 r s x m l
 have q:=ZaJ (n:=2) C fun y A=>by
  obtain⟨k,_,rfl⟩:=QQ.mp A;split<;>simp
 rw[Qq]at q;exact q
section
variable{es:List (Nat×Nat)}{tl:List (Option Nat)}{u v p:Nat}{S:List Nat}
def swt(u v t:Nat):Nat:=if t=u then v else u
theorem YT(huv:u≠v)(hS:∀k,k∈S↔RT es tl u v p k) {x t} (hx:RP es tl u v p x) (ht:t=u\/t=v):Used es (trn tl u v S) es.length x t↔Used es tl es.length x (swt u v t):=by
 constructor
 ·rintro⟨j,d,e,f⟩
  have g:InP _ u v j:=ht.elim (fun z=> .inl (z▸e)) fun z=> .inr (z▸e);have b:=(Zde huv (fun k m=>((hS k).mp m).2.1) j).mp g;refine⟨j,d,?_,f⟩;rw[Jy ((hS j).mpr ⟨d,b,x,hx,f⟩) b]at e;rcases b with a|a
  ·rw[Zdw a]at e
   have:=(Option.some.inj (Option.some.inj e)).symm;unfold swt
   simp_all
  ·rw[Zcq huv a]at e
   have:=(Option.some.inj (Option.some.inj e)).symm;unfold swt;rw[if_pos this,a]
 ·rintro⟨j,d,e,f⟩
  have g:InP tl u v j:=by
   rcases ht with rfl|rfl
   ·unfold swt at e;rw[if_pos rfl]at e;exact .inr e
   ·unfold swt at e;rw[if_neg (Ne.symm huv)]at e;exact .inl e
  refine⟨j,d,?_,f⟩;rw[Jy ((hS j).mpr ⟨d,g,x,hx,f⟩) g];rcases ht with rfl|rfl
  ·unfold swt at e;rw[if_pos rfl]at e;rw[Zcq huv e]
  ·unfold swt at e;rw[if_neg (Ne.symm huv)]at e;rw[Zdw e]
end
theorem ZgK(h:RP es tl u v p y):y=p\/∃k,RT es tl u v p k/\At (es.getD k (0,0)) p:=by
 induction h with
 |start=>exact .inl rfl
 |step _ f d b _ c=>
  rcases c with e|e
  ·subst e
   exact .inr ⟨_,⟨f,d,_,.start,b⟩,b⟩
  ·exact .inr e
theorem Zeq(h:RP es tl u v p y)(hs:∃k,RT es tl u v p k):∃k,RT es tl u v p k/\At (es.getD k (0,0)) y:=by
 cases h with
 |start=>
  obtain⟨k,d,c,x,b,a⟩:=hs;rcases ZgK b with e|e
  ·subst e
   exact⟨k,⟨d,c,_,b,a⟩,a⟩
  ·exact e
 |step b d c a f=>exact⟨_,⟨d,c,_,b,a⟩,f⟩
theorem ZhG{es:List (Nat×Nat)}{tl:List (Option Nat)}{u v p:Nat}{S pts E:List _}(hc:CleanTo es tl es.length)(hne:∀k,k<es.length->(es.getD k (0,0)).1≠(es.getD k (0,0)).2) (hS:S.Pairwise (·<·)) (hRT:∀k,k∈S↔RT es tl u v p k)
  (nd:pts.Nodup) (hp:∀k∈S,(es.getD k (0,0)).1∈pts/\(es.getD k (0,0)).2∈pts) (hl:pts.length<=S.length+1) (hr:∀x∈pts,RP es tl u v p x) (hE:E.Pairwise (·<·)) (hEx:∀x,x∈E↔deg es S x=1):E.length=0\/E.length=2:=by
 cases i:S with
 |nil=>
  refine .inl ?_;cases E with
  |nil=>rfl
  |cons x E=>
   have:=(hEx x).mp (.head _);rw[i]at this;cases this
 |cons k0 S0=>
  have hk0:k0∈S:=by simp_all
  have hd:∀x∈pts,deg es S x=1\/deg es S x=2:=fun x hx=>by
   obtain⟨k,a,h⟩:=Zeq (hr x hx) ⟨k0,(hRT k0).mp hk0⟩;have h1:=Za1 ((hRT k).mpr a) h;have h2:=ZeD (hS.imp fun z=>Qo z) (fun k a=>⟨((hRT k).mp a).1,((hRT k).mp a).2.1⟩) (fun k a=>hne k ((hRT k).mp a).1) hc x;omega
  have c:E.length=(pts.filter fun x=>decide (deg es S x=1)).length:=by
   refine List.Perm.length_eq ((List.perm_ext_iff_of_nodup (hE.imp fun z=>Qo z) (nd.filter _)).mpr fun x=>?_);rw[hEx x,Q8,decide_eq_true_iff];refine⟨fun z=>⟨?_,z⟩,fun z=>z.2⟩;obtain⟨k,a,h⟩:=ZeE (es:=es) (x:=x) (S:=S) (by omega);rcases h with e|e
   ·grind
   ·grind
  rw[c];exact(ZhF nd hp hd hl)
def Zag(l:List Nat)(x:Nat):List Nat:=if x∈l then l else l++[x]
theorem mem_addN:y∈Zag l x↔y∈l\/y=x:=by
 unfold Zag;split
 ·simp_all
 ·simp_all
theorem ZbY(h:l.Nodup):(Zag l x).Nodup:=by
 unfold Zag;split
 ·exact h
 ·rename_i _
  rw[Ud]
  grind
theorem Za8{x y i:Nat}(h:l[i]?=some y):(Zag l x)[i]?=some y:=by
 unfold Zag;split
 ·exact h
 ·rw[QJ (Qd.mp h).1];exact h
theorem ZdW:(Zag l x).length<=l.length+1:=by
 unfold Zag;split
 ·simp
 ·simp_all
theorem ZfB(h:x∈l):Zag l x=l:=by unfold Zag;rw[if_pos h]
structure Cm(es:List (Nat×Nat))(tl:List (Option Nat))(u v p n a:Nat)(met known:List Nat):Prop where
 kn:known.Nodup
 kr:∀x∈known,RP es tl u v p x
 kp:p∈known
 klt:∀x∈known,x<n
 mn:met.Nodup
 mr:∀k∈met,RT es tl u v p k
 me:∀k∈met,(es.getD k (0,0)).1∈known/\(es.getD k (0,0)).2∈known
 cl:∀i x,i<a->known[i]?=some x->∀k,k<es.length->InP tl u v k->At (es.getD k (0,0)) x->k∈met
 le:known.length<=met.length+1
theorem Cm.start{u v p n}(h:p<n):Cm es tl u v p n 0 [] [p]:=
 ⟨QN.mpr ⟨Qt,Q4⟩,(fun x b=>by rw[Qf.mp b];exact .start),Qf.mpr rfl,(fun x b=>by simp_all),Q4,(fun k a=>by cases a),(fun k a=>by cases a),(fun i x c=>absurd c (QK _)),Qe _⟩
theorem Cm.add{es:List (Nat×Nat)}{tl:List (Option Nat)}{u v p n a x k:Nat}{met known:List Nat}(h:Cm es tl u v p n a met known)(hx:known[a]?=some x)(hk:k<es.length)(hi:InP tl u v k)(hat:At (es.getD k (0,0)) x)(hno:k ∉ met)(h1:(es.getD k (0,0)).1<n)(h2:(es.getD k (0,0)).2<n):
  Cm es tl u v p n a (met++[k]) (Zag (Zag known (es.getD k (0,0)).1) (es.getD k (0,0)).2):=by
 have hxm:=Qj hx;have rt:RT es tl u v p k:=⟨hk,hi,x,h.kr x hxm,hat⟩;have hal:a<known.length:=(Qd.mp hx).1;have key:∀y,y∈Zag (Zag known (es.getD k (0,0)).1) (es.getD k (0,0)).2↔(y∈known\/y=(es.getD k (0,0)).1)\/y=(es.getD k (0,0)).2:=fun y=>by rw[mem_addN,mem_addN]
 refine⟨ZbY (ZbY h.kn),fun y hy=>?_,(key p).mpr (.inl (.inl h.kp)),fun y hy=>?_,?_,fun j hj=>?_,fun j hj=>?_,fun i y hi' hy j a1 a2 a3=>?_,?_⟩
 ·rcases(key y).mp hy with(z|rfl)|rfl
  ·exact h.kr y z
  ·exact rt.end (.inl rfl)
  ·exact rt.end (.inr rfl)
 ·rcases(key y).mp hy with(z|rfl)|rfl
  ·exact h.klt y z
  ·exact h1
  ·exact h2
 ·rw[Ud]
  exact⟨h.mn,QN.mpr ⟨Qt,Q4⟩,fun a ha b hb z=>by rw[Qf]at hb;subst hb z;exact hno ha⟩
 ·rcases Qw.mp hj with z|z
  ·exact h.mr j z
  ·rw[Qf.mp z];exact rt
 ·rcases Qw.mp hj with z|z
  ·exact⟨(key _).mpr (.inl (.inl (h.me j z).1)),(key _).mpr (.inl (.inl (h.me j z).2))⟩
  ·rw[Qf.mp z];exact⟨(key _).mpr (.inl (.inr rfl)),(key _).mpr (.inr rfl)⟩
 ·have hil:i<known.length:=by omega
  have e:known[i]?=some y:=by
   have h3:=Za8 (x:=(es.getD k (0,0)).2) (Za8 (x:=(es.getD k (0,0)).1) (Qb hil));rw[hy]at h3;rw[Qb hil,<-Option.some.inj h3]
  exact Qz _ (h.cl i y hi' e j a1 a2 a3)
 ·rw[Qk,QF]
  have hle:=h.le;rcases hat with e|e
  ·rw[ZfB (l:=known) (x:=(es.getD k (0,0)).1) (e▸hxm)]
   have:=ZdW (l:=known) (x:=(es.getD k (0,0)).2);omega
  ·rw[ZfB (l:=Zag known (es.getD k (0,0)).1) (x:=(es.getD k (0,0)).2) (mem_addN.mpr (.inl (e▸hxm)))]
   have:=ZdW (l:=known) (x:=(es.getD k (0,0)).1);omega
theorem Cm.next{es:List (Nat×Nat)}{tl:List (Option Nat)}{u v p n a x:Nat}{met known:List Nat}(h:Cm es tl u v p n a met known)(hx:known[a]?=some x)(hc:∀k,k<es.length->InP tl u v k->At (es.getD k (0,0)) x->k∈met):Cm es tl u v p n (a+1) met known:=
 ⟨h.kn,h.kr,h.kp,h.klt,h.mn,h.mr,h.me,(fun i y hi hy=>by
  by_cases e:i=a
  ·subst e
   rw[hx]at hy;cases hy;exact hc
  ·exact h.cl i y (by omega) hy),h.le⟩
theorem Cm.done{es:List (Nat×Nat)}{tl:List (Option Nat)}{u v p n a:Nat}{met known:List Nat}(h:Cm es tl u v p n a met known)(ha:known.length<=a):∀k,k∈met↔RT es tl u v p k:=by
 have W:Walk es tl u v p (·∈met) (·∈known) (fun _=>False):=by
  refine⟨h.mr,fun x z=>z.elim,fun x hx k a1 a2 a3=>?_,fun k hk x hx=> .inl ?_,.inl h.kp⟩
  ·obtain⟨i,hi,e⟩:=QW hx
   exact h.cl i x (by omega) (by rw[Qb hi,e]) k a1 a2 a3
  ·rcases hx with rfl|rfl
   ·exact(h.me k hk).1
   ·exact(h.me k hk).2
 exact W.done fun x z=>z
theorem ZbK(k:Nat)(l:List Nat):inV (.int (k:Int)) (nl l)=true↔k∈l:=by
 unfold inV nl;rw[List.any_map,UK];constructor
 ·rintro⟨x,hx,e⟩
  have e':((x:Int)==(k:Int))=true:=e;have:=eq_of_beq e';rw[show k=x by omega];exact hx
 ·intro h
  exact⟨k,h,(Ve.mpr rfl:((k:Int)==(k:Int))=true)⟩
theorem Zbj(l:List Nat):(nl l).all JQ=true:=by
 unfold nl;rw[List.all_map,List.all_eq_true];exact fun x _=>rfl
theorem ZiW(o:Option Nat):JQ (tN o)=true:=by cases o<;>rfl
theorem Cm.pass{es}{tl}{u v p n a x}(ok:∀e∈es,e.1<n/\e.2<n/\e.1≠e.2):∀(k),k<=es.length->∀{met known},Cm es tl u v p n a met known->known[a]?=some x->
  ∃met' known',Cm es tl u v p n a met' known'/\known'[a]?=some x/\∀j,j<k->InP tl u v j->At (es.getD j (0,0)) x->j∈met'
 |0,_,met,known,C,d=>⟨_,_,C,d,fun j f=>absurd f (QK _)⟩
 |k+1,_,met,known,C,d=>by
  obtain⟨met',known',g,b,_⟩:=Cm.pass ok k (by omega) C d;by_cases h:InP tl u v k/\At (es.getD k (0,0)) x/\k ∉ met'
  ·obtain⟨l,m,i⟩:=h
   have c:=ok _ (getD_mem (show k<es.length by assumption));refine⟨_,_,g.add b (by assumption) l m i c.1 c.2.1,Za8 (Za8 b),fun j f _ _=>?_⟩
   grind
  grind
theorem Cm.run{es}{tl}{u v p n}(ok:∀e∈es,e.1<n/\e.2<n/\e.1≠e.2):∀(d a){met known},n-a<=d->Cm es tl u v p n a met known->∃a' met' known',Cm es tl u v p n a' met' known'/\known'.length<=a'
 |d,a,met,known,_,C=>by
  by_cases h:known.length<=a
  ·grind
  ·have _:=ZaJ C.kn C.klt
   obtain⟨x,c⟩:∃x,known[a]?=some x:=⟨_,Qb (by omega)⟩;obtain⟨met',known',f,b,g⟩:=Cm.pass ok _ (Qe _) C c;cases d with
   |zero=>omega
   |_ d=>exact Cm.run ok d _ (by omega) (f.next b g)
theorem Zgn{es:List (Nat×Nat)}{tl:List (Option Nat)}{u v p n:Nat}{S:List _}(ok:∀e∈es,e.1<n/\e.2<n/\e.1≠e.2) (hp:p<n) (hS:S.Pairwise (·<·)) (hR:∀k,k∈S↔RT es tl u v p k):
  ∃pts:List _,pts.Nodup/\(∀k∈S,(es.getD k (0,0)).1∈pts/\(es.getD k (0,0)).2∈pts)/\pts.length<=S.length+1/\∀x∈pts,RP es tl u v p x:=by
 obtain⟨a,_,_,C,h⟩:=Cm.run ok n 0 (by simp) (Cm.start (es:=es) (tl:=tl) (u:=u) (v:=v) hp);have c:=C.done h;have _:=((List.perm_ext_iff_of_nodup C.mn (hS.imp fun z=>Qo z)).mpr fun k=>by rw[c k,hR k]).length_eq;exact⟨_,C.kn,fun k d=>C.me k ((c k).mpr ((hR k).mp d)),by have:=C.le;omega,C.kr⟩
theorem Zek{f}(h:∀x,f x<=2):∀l:List _,ZB f l<=2*l.length
 |[]=>Qe _
 |x::l=>by
  have:=Zek h l;have:=h x;show f x+ZB f l<=2*(l.length+1);omega
section
variable{es:List (Nat×Nat)}{tl:List (Option Nat)}{u v p n:Nat}{S:List Nat}
theorem Zfi(ok:∀e∈es,e.1<n/\e.2<n/\e.1≠e.2):∀k,k<es.length->(es.getD k (0,0)).1≠(es.getD k (0,0)).2:=fun k a=>(ok _ (getD_mem a)).2.2
theorem ZaP(ok:∀e∈es,e.1<n/\e.2<n/\e.1≠e.2) (hc:CleanTo es tl es.length) (hS:S.Pairwise (·<·)) (hR:∀k,k∈S↔RT es tl u v p k):S.length<=n:=by
 have _:=Zbc U8 fun k a=>by
  have:=ok _ (getD_mem ((hR k).mp a).1);exact⟨QC.mpr this.1,QC.mpr this.2.1⟩
 have _:=Zek (fun x=>ZeD (hS.imp fun z=>Qo z) (fun k a=>⟨((hR k).mp a).1,((hR k).mp a).2.1⟩) (fun k a=>Zfi ok k ((hR k).mp a).1) hc x) (List.range n)
 grind
theorem two_le{l:List Nat}(nd:l.Nodup)(h:∀a∈l,∀b∈l,a=b):l.length<=1:=by
 cases l with
 |nil=>exact QE _
 |cons a l=>
  cases l with
  |nil=>exact Qe _
  |cons b l=>
   simp_all
theorem Zbl(hS:S.Pairwise (·<·))(hR:∀k,k∈S↔RT es tl u v p k) (ok:∀e∈es,e.1<n/\e.2<n/\e.1≠e.2) (hc:CleanTo es tl es.length) {x} (hf:¬Used es tl es.length x u\/¬Used es tl es.length x v):deg es S x<=1:=by
 rw[Zac x fun k E=>Zfi ok k ((hR k).mp E).1];refine two_le ((hS.imp fun z=>Qo z).filter _) fun a D b H=>?_;have g:∀c,c∈S.filter (fun k=>decide (x=(es.getD k (0,0)).1\/x=(es.getD k (0,0)).2))->c<es.length/\At _ x/\InP tl u v c:=fun c q=>by
  obtain⟨f,G⟩:=Q8.mp q;have A:=(hR c).mp f;exact⟨A.1,(show x=(es.getD c (0,0)).1\/x=(es.getD c (0,0)).2 from Qr G),A.2.1⟩
 obtain⟨s,j,w⟩:=g a D;obtain⟨o,i,y⟩:=g b H;obtain⟨t,C,B⟩:∃t,tl[a]?=some (some t)/\tl[b]?=some (some t):=by
  rcases hf with hf|hf
  ·have f:∀c,c<es.length->At _ x->InP tl u v c->tl[c]?=some _:=fun c r l m=>m.resolve_left fun z=>hf ⟨c,r,z,l⟩
   exact⟨v,f a s j w,f b o i y⟩
  ·have f:∀c,c<es.length->At _ x->InP tl u v c->tl[c]?=some _:=fun c r l m=>m.resolve_right fun z=>hf ⟨c,r,z,l⟩
   exact⟨u,f a s j w,f b o i y⟩
 rcases UG a b with h|h|h
 ·exact absurd j (hc b a t h o B C x i)
 ·exact h
 ·exact absurd i (hc a b t h s C B x j)
theorem Zbu(ok:∀e∈es,e.1<n/\e.2<n/\e.1≠e.2) (hp:p<n) (hc:CleanTo es tl es.length) (hS:S.Pairwise (·<·)) (hR:∀k,k∈S↔RT es tl u v p k) {x y z} (hx:deg es S x=1) (hy:deg es S y=1) (hz:deg es S z=1) (xy:x≠y) (xz:x≠z) (yz:y≠z):False:=by
 obtain⟨_,i,j,h,m⟩:=Zgn ok hp hS hR;have hlt:∀w,deg es S w=1->w<n:=fun w g=>by
  obtain⟨k,l,ha⟩:=ZeE (es:=es) (x:=w) (S:=S) (by omega);have:=ok _ (getD_mem ((hR k).mp l).1);rcases ha with e|e<;>omega
 have f:∀w,w∈(List.range n).filter (fun w=>decide (deg es S w=1))↔deg es S w=1:=fun w=>by
  grind
 have key:=ZhG hc (Zfi ok) hS hR i j h m (show((List.range n).filter fun w=>decide _).Pairwise _ from List.Pairwise.filter _ List.pairwise_lt_range) f;have _:=sub_len (a:=[x,y,z]) (b:=(List.range n).filter fun w=>decide (deg es S w=1)) (by
  simp_all) fun w g=>by
   simp[Qn,Qt,Q3]at g
   grind
 grind
theorem Jx(hR:∀k,k∈S↔RT es tl u v p k) {x t} (hx:¬RP es tl u v p x):Used es (trn tl u v S) es.length x t↔Used es tl es.length x t:=by
 have h:=fun j e d=>hx (((hR j).mp d).end e);constructor
 ·rintro⟨j,a,b,c⟩
  exact⟨j,a,by rw[Yk (h j c)]at b;exact b,c⟩
 ·rintro⟨j,a,b,c⟩
  exact⟨j,a,by rw[Yk (h j c)];exact b,c⟩
theorem JB(huv:u≠v)(hI:∀k∈S,InP tl u v k) {j t:Nat} (h1:t≠u) (h2:t≠v):(trn tl u v S)[j]?=some (some t)↔tl[j]?=some (some t):=by
 by_cases h:j∈S
 ·have a:=hI j h
  constructor
  ·intro z
   rcases((Zde huv hI j).mpr a)with e|e
   ·simp_all
   ·simp_all
  ·intro z
   rcases a with e|e
   ·rw[z]at e;simp_all
   ·rw[z]at e;simp_all
 ·rw[Yk h]
theorem Zco(huv:u≠v)(hI:∀k∈S,InP tl u v k) {x t} (h1:t≠u) (h2:t≠v):Used es (trn tl u v S) es.length x t↔Used es tl es.length x t:=
 ⟨fun⟨j,a,b,c⟩=>⟨j,a,(JB huv hI h1 h2).mp b,c⟩,fun⟨j,a,b,c⟩=>⟨j,a,(JB huv hI h1 h2).mpr b,c⟩⟩
theorem Ja(hI:∀k∈S,InP tl u v k) {j:Nat}:(trn tl u v S)[j]?=some none↔tl[j]?=some none:=by
 by_cases h:j∈S
 ·have a:=hI j h
  constructor
  ·intro z
   rw[Jy h a]at z;cases Option.some.inj z
  ·intro z
   rcases a with e|e<;>rw[z]at e<;>cases Option.some.inj e
 ·rw[Yk h]
end
theorem ZdP(p):∀l:List Nat,(l.filter p).length+(l.filter fun x=> !p x).length=l.length
 |[]=>rfl
 |x::l=>by
  have _:=ZdP p l
  grind
theorem ZbO{p q}(h:∀x,p x=true->q x=true):∀l:List Nat,(l.filter p).length<=(l.filter q).length
 |[]=>Qe _
 |x::l=>by
  have _:=ZbO h l;cases _:p x with
  |true=>simp_all
  |_=>
   grind
def ct(es:List (Nat×Nat))(tl:List (Option Nat))(x:Nat):Nat:=((List.range es.length).filter fun j=>atB (es.getD j (0,0)) x&&(tl.getD j none).isSome).length
theorem ZhR(es)(tl)(x):ct es tl x<=dg es es.length x:=ZbO (fun j h=>(Bool.and_eq_true_iff.mp h).1) _
theorem ZdS{es}{tl}{k x}(hk:k<es.length)(hb:tl[k]?=some none)(hx:At (es.getD k (0,0)) x):ct es tl x+1<=dg es es.length x:=by
 have _:=Zbk k (fun j=>atB (es.getD j (0,0)) x) (atB_iff.mpr hx) _ (QC.mpr hk);have _:ct es tl x<=((List.range es.length).filter fun j=>j !=k&&atB (es.getD j (0,0)) x).length:=by
  refine ZbO (fun j h=>?_) _;obtain⟨a,b⟩:=Bool.and_eq_true_iff.mp h;rw[Ux];refine⟨?_,a⟩;by_cases e:j=k
  ·simp_all
  ·simp[e]
 unfold dg;omega
theorem YY(es)(tl)(x m):m<=(frees es tl x m).length+ct es tl x:=by
 have i:=ZdP (fun t=>@decide (¬Used es tl es.length x t) (Classical.propDecidable _)) (List.range m);rw[U1]at i;have h:=sub_len (a:=(List.range m).filter fun t=> !(@decide (¬Used es tl es.length x t) (Classical.propDecidable _))) (b:=((List.range es.length).filter fun j=>atB (es.getD j (0,0)) x&&(tl.getD j none).isSome).map fun j=>(tl.getD j none).getD 0) (List.nodup_range.filter _) fun t k=>by
  obtain⟨_,h⟩:=Q8.mp k;have l:=Qv fun z=>by
   rw[@Qu _ (Classical.propDecidable _) z]at h;cases h
  obtain⟨j,a,b,c⟩:=l;refine QQ.mpr ⟨j,Q8.mpr ⟨QC.mpr a,?_⟩,?_⟩
  ·rw[Ux,show tl.getD j _=some t by simp_all]
   exact⟨atB_iff.mpr c,rfl⟩
  ·simp_all
 rw[Qq]at h;unfold ct frees;omega
theorem Yo{es}{tl}{k x m M}(hk:k<es.length)(hb:tl[k]?=some none)(hx:At (es.getD k (0,0)) x)(hM:dg es es.length x<=M)(hm:M<=m):0<(frees es tl x m).length:=by
 have:=YY es tl x m;have:=ZdS hk hb hx;omega
theorem JC(es)(tl)(x m):(frees es tl x m).Nodup:=List.nodup_range.filter _
theorem ZeU{tl}{k m M a b c}(hk:k<es.length)(hb:tl[k]?=some none)(ha:At (es.getD k (0,0)) a)(hb':At (es.getD k (0,0)) b)(da:dg es es.length a<=M)(db:dg es es.length b<=M)(dc:dg es es.length c<=M)(hm:3*M<=2*m+1)
  (h1:∀t,t<m->¬Used es tl es.length a t->¬Used es tl es.length b t->False) (h2:∀t,t<m->¬Used es tl es.length a t->¬Used es tl es.length c t->False):∃t,t<m/\¬Used es tl es.length b t/\¬Used es tl es.length c t:=by
 apply Qv;intro j;have _:=YY es tl a m;have _:=YY es tl b m;have _:=YY es tl c m;have _:=ZdS hk hb ha;have _:=ZdS hk hb hb';have _:=ZhR es tl c;have i:=sub_len (a:=frees es tl a m++(frees es tl b m++frees es tl c m)) (by
  rw[Ud,Ud];refine⟨JC _ _ _ _,⟨JC _ _ _ _,JC _ _ _ _,fun x d y f e=>?_⟩,fun x d y f e=>?_⟩
  ·subst e
   obtain⟨h,g⟩:=frees_mem.mp d;exact j ⟨x,h,g,(frees_mem.mp f).2⟩
  ·subst e
   obtain⟨h,g⟩:=frees_mem.mp d;rcases Qw.mp f with f|f
   ·exact h1 x h g (frees_mem.mp f).2
   ·exact h2 x h g (frees_mem.mp f).2) fun x d=>by
  rcases Qw.mp d with d|d
  ·exact QC.mpr (frees_mem.mp d).1
  ·rcases Qw.mp d with d|d
   ·exact QC.mpr (frees_mem.mp d).1
   ·exact QC.mpr (frees_mem.mp d).1
 rw[Qk,Qk,U1]at i;omega
inductive Stp where
 |turn (p u v:Nat)
 |tint (k t:Nat)
 |bare (k:Nat)
def stV:Stp->List V
 | .turn p u v=>[.str "turn",.int p,.int u,.int v]
 | .tint k t=>[.str "tint",.int k,.int t]
 | .bare k=>[.str "bare",.int k]
def StOk(n L m:Nat):Stp->Prop
 | .turn p u v=>p<n/\u<m/\v<m/\u≠v
 | .tint k t=>k<L/\t<m
 | .bare k=>k<L
def Did(es:List (Nat×Nat))(tl:List (Option Nat)):Stp->List (Option Nat)->Prop
 | .turn p u v,r=>∃S:List Nat,S.Pairwise (·<·)/\(∀k,k∈S↔RT es tl u v p k)/\r=trn tl u v S
 | .tint k t,r=>r=tl.set k (some t)
 | .bare k,r=>r=tl.set k none
theorem Did.len{s:Stp}(h:Did es tl s r):r.length=tl.length:=by
 cases s with
 |turn p u v=>obtain⟨S,_,_,rfl⟩:=h;exact Je _ _ _ _
 |tint k t=>rw[h,QT]
 |_ k=>rw[h,QT]
theorem Did.uniq{s}(h:Did es tl s r)(h':Did es tl s r'):r=r':=by
 cases s with
 |turn p u v=>
  obtain⟨S,a,b,rfl⟩:=h;obtain⟨_,c,d,rfl⟩:=h';rw[YF a c fun x=>by rw[b x,d x]]
 |tint k t=>exact h.trans h'.symm
 |_ k=>exact h.trans h'.symm
inductive Wk(es:List (Nat×Nat))(n m:Nat):List Stp->List (Option Nat)->List (Option Nat)->Prop
 |nil {tl:List (Option Nat)}:Wk es n m [] tl tl
 |cons {s:Stp} {sl:List Stp} {tl t1 t2:List (Option Nat)}:StOk n es.length m s->Did es tl s t1->CleanTo es t1 es.length->Wk es n m sl t1 t2->Wk es n m (s::sl) tl t2
structure Res(es:List (Nat×Nat))(tl:List (Option Nat))(k m n mv:Nat)(sl:List Stp):Prop where
 ex:∃tE,Wk es n m sl tl tE/\tE.length=es.length/\CleanTo es tE es.length/\(∃t,tE[k]?=some (some t))/\(∀j,j≠k->(tE[j]?=some none↔tl[j]?=some none))/\∃l:List Nat,l.length<=mv/\∀j,j≠k->tl[j]?≠tE[j]?->j∈l
 few:sl.length<=4
section
variable{es:List (Nat×Nat)}{tl:List (Option Nat)}{n m:Nat}
theorem Yw(h:Used es (tl.set g none) es.length x t):Used es tl es.length x t/\∃j,j≠g/\j<es.length/\tl[j]?=some (some t)/\At (es.getD j (0,0)) x:=by
 obtain⟨j,a,b,c⟩:=h;rw[Qy]at b;by_cases e:g=j
 ·simp_all
 ·rw[if_neg e]at b
  exact⟨⟨j,a,b,c⟩,j,fun z=>e z.symm,a,b,c⟩
theorem ZbV(hC:CleanTo es tl es.length):CleanTo es (tl.set g none) es.length:=by
 intro i j t d h a b p c f;rw[Qy]at a b;by_cases e:g=i
 ·simp_all
 ·rw[if_neg e]at a
  by_cases k:g=j
  ·simp_all
  ·rw[if_neg k]at b
   exact hC i j t d h a b p c f
theorem Zar(hx:At e x)(hy:At e y):y=x\/y=oth e x:=by
 unfold oth;rcases hx with rfl|rfl
 ·rw[if_pos rfl]
  exact hy
 ·rcases hy with rfl|rfl
  ·simp_all
  ·exact .inl rfl
theorem ZfC{k x t t'}(h:Used es (tl.set k (some t')) es.length x t):t=t'\/Used es tl es.length x t:=by
 obtain⟨j,a,b,c⟩:=h;rw[Qy]at b;by_cases e:k=j
 ·simp_all
 ·rw[if_neg e]at b
  exact .inr ⟨j,a,b,c⟩
def handed(k g gv nw:Nat):List Stp:=[.bare g,.tint k gv,.tint g nw]
theorem Zfu{k g gv nw a b}(hC:CleanTo es tl es.length)(hl:tl.length=es.length)(hk:k<es.length)(hg:g<es.length)(hgk:g≠k)(ea:(es.getD k (0,0)).1=a)(eb:(es.getD k (0,0)).2=b)(hgt:tl[g]?=some (some gv))(hga:At (es.getD g (0,0)) a)(gm:gv<m)(nm:nw<m)
  (nb:¬Used es tl es.length b gv)(na:¬Used es tl es.length a nw)(nc:¬Used es tl es.length (oth (es.getD g (0,0)) a) nw):
  Wk es n m (handed k g gv nw) tl (((tl.set g none).set k (some gv)).set g (some nw))/\CleanTo es (((tl.set g none).set k (some gv)).set g (some nw)) es.length:=by
 have l:CleanTo es (tl.set g none) _:=ZbV hC;have i:CleanTo es ((tl.set g none).set k (some gv)) es.length:=by
  refine Ya l (show(tl.set g _).length=es.length by simp_all) hk ?_ ?_
  ·rw[ea]
   intro z;obtain⟨_,j,r,t,q,o⟩:=Yw z;rcases UG j g with h|h|h
   ·exact hC g j gv h hg hgt q a hga o
   ·exact r h
   ·exact hC j g gv h t q hgt a o hga
  ·rw[eb]
   exact fun z=>nb (Yw z).1
 have f:∀x,¬Used es tl es.length x nw->¬Used es ((tl.set g none).set k (some gv)) es.length x nw:=fun x s z=>by
  rcases ZfC z with z|z
  ·exact(show nw≠gv from fun z=>na ⟨g,hg,by rw[z];exact hgt,hga⟩) z
  ·exact s (Yw z).1
 have p:CleanTo es (((tl.set g none).set k (some gv)).set g (some nw)) es.length:=by
  refine Ya i (show((tl.set g none).set k (some gv)).length=es.length by simp_all) hg ?_ ?_
  ·rcases Zar hga (y:=(es.getD g (0,0)).1) (.inl rfl)with e|e
   ·rw[e];exact f a na
   ·rw[e];exact f _ nc
  ·rcases Zar hga (y:=(es.getD g (0,0)).2) (.inr rfl)with e|e
   ·rw[e];exact f a na
   ·rw[e];exact f _ nc
 exact⟨.cons hg rfl l (.cons ⟨hk,gm⟩ rfl i (.cons ⟨hg,nm⟩ rfl p .nil)),p⟩
end
def ats(es:List (Nat×Nat))(x:Nat):List Nat:=(List.range es.length).filter fun j=>atB (es.getD j (0,0)) x
def YS(es:List (Nat×Nat))(tl:List (Option Nat))(x t:Nat):List Nat:=(ats es x).filter fun j=>decide (tl.getD j none=some t)
def Zid(es:List (Nat×Nat))(tl:List (Option Nat))(u v p x:Nat):Prop:=∃S:List Nat,S.Pairwise (·<·)/\(∀k,k∈S↔RT es tl u v p k)/\deg es S x=1
noncomputable def YX(es:List (Nat×Nat))(tl:List (Option Nat))(k m:Nat):Nat:=(frees es tl (es.getD k (0,0)).2 m).getD 0 0
noncomputable def gOf(es:List (Nat×Nat))(tl:List (Option Nat))(k m:Nat):Nat:=(YS es tl (es.getD k (0,0)).1 (YX es tl k m)).getD 0 0
noncomputable def cOf(es:List (Nat×Nat))(tl:List (Option Nat))(k m:Nat):Nat:=oth (es.getD (gOf es tl k m) (0,0)) (es.getD k (0,0)).1
noncomputable def ZcM(es:List (Nat×Nat))(tl:List (Option Nat))(k m:Nat):List Nat:=both es tl (es.getD k (0,0)).1 (cOf es tl k m) m
noncomputable def J8(es:List (Nat×Nat))(tl:List (Option Nat))(k m:Nat):Nat:=(frees es tl (es.getD k (0,0)).1 m).getD 0 0
noncomputable def Zaa(es:List (Nat×Nat))(tl:List (Option Nat))(k m:Nat):Nat:=(both es tl (es.getD k (0,0)).2 (cOf es tl k m) m).getD 0 0
open Classical in
noncomputable def roomOf(es:List (Nat×Nat))(tl:List (Option Nat))(k m:Nat):List Stp:=
 if 0<(ZcM es tl k m).length then handed k (gOf es tl k m) (YX es tl k m) ((ZcM es tl k m).getD 0 0)
 else if Zid es tl (J8 es tl k m) (Zaa es tl k m) (es.getD k (0,0)).1 (es.getD k (0,0)).2 then .turn (cOf es tl k m) (J8 es tl k m) (Zaa es tl k m)::handed k (gOf es tl k m) (YX es tl k m) (J8 es tl k m)
 else[.turn (es.getD k (0,0)).1 (J8 es tl k m) (Zaa es tl k m),.tint k (Zaa es tl k m)]
open Classical in
noncomputable def Zju(es:List (Nat×Nat))(tl:List (Option Nat))(k m:Nat):List Stp:=
 if 0<(both es tl (es.getD k (0,0)).1 (es.getD k (0,0)).2 m).length then[.tint k ((both es tl (es.getD k (0,0)).1 (es.getD k (0,0)).2 m).getD 0 0)]else roomOf es tl k m
theorem ats_mem:j∈ats es x↔j<es.length/\At (es.getD j (0,0)) x:=by
 unfold ats;rw[Q8,QC,atB_iff]
theorem Js(hl:tl.length=es.length):j∈YS es tl x t↔j<es.length/\At (es.getD j (0,0)) x/\tl[j]?=some (some t):=by
 unfold YS;rw[Q8,ats_mem,decide_eq_true_iff,and_assoc]
 simp_all
theorem head_mem{l:List _}(h:0<l.length):l.getD 0 0∈l:=by
 simp_all
theorem ZdL{tl:List _}{k g:Nat}{o1 o2 o3:Option Nat}{j:Nat}(hj:j≠k)(h:tl[j]?≠(((tl.set g o1).set k o2).set g o3)[j]?):j=g:=by
 apply Qv;intro a;apply h;rw[Qy,if_neg (fun z=>a z.symm),Qy,if_neg (fun z=>hj z.symm),Qy,if_neg (fun z=>a z.symm)]
theorem Zc4{tl:List (Option Nat)}{k g gv nw}(hgt:tl[g]?=some (some gv))(hgk:g≠k){j}(hj:j≠k):(((tl.set g none).set k (some gv)).set g (some nw))[j]?=some none↔tl[j]?=some none:=by
 by_cases e:j=g
 ·subst e
  have _:=(Qd.mp hgt).1
  simp_all
 ·rw[Qy,if_neg (fun z=>e z.symm),Qy,if_neg (fun z=>hj z.symm),Qy,if_neg (fun z=>e z.symm)]
theorem Zhy{tl:List _}{k g gv nw:Nat}(hgk:g≠k)(hk:k<tl.length):(((tl.set g none).set k (some gv)).set g (some nw))[k]?=some (some gv):=by
 simp_all
section
variable{P:Program}{w:World}{K:PySem.W.Frag}{mg:Str->Option Value}{base:Heap}
abbrev sTu:Stmt:=top 10
abbrev nTu:List Str:=["net","tints","point","one","other","row","tie"]
inductive spTu(vs:List V)(H:Hp)(Q:VK)(_z3:XK):Prop
 |mk (p r:Addr) (n:Nat) (q:Addr) (ts:List V) (es:List (Nat×Nat)) (tl:List (Option Nat)) (pt u v:Nat) (_:vs=[.ref p,.ref r,.int (pt:Int),.int (u:Int),.int (v:Int)]) (_:NetZ H p n q ts es) (_:H r=some (.tup (tv tl))) (_:tl.length=es.length) (_:es.length<64) (_:∀H' t(S:List Nat),Same H H'->H' t=some (.tup (tv (trn tl u v S)))->S.Pairwise (·<·)->(∀k,k∈S↔RT es tl u v pt k)->Q (.ref t) H')
theorem scTu:Zm nTu ["net","tints","point","one","other"] (Zg sTu):=⟨rfl,rfl,rfl,by decide+kernel,rfl,by decide+kernel,by decide+kernel⟩
theorem ZlO{f}{fd}(F:Fun K "turned" "turned" sTu f fd)(T:Bi mg)(FC:FnE P w K mg base "chain" ["net","tints","point","one","other"] 2 spCh):FnOk P w K mg base CX0 3 f fd ["net","tints","point","one","other"] spTu:=by
 refine F.ok scTu (fun vs H Q E h=>?_) (fun cdv A outer s H vs Q E hr h=>?_)
 ·obtain⟨p,r,n,q,ts,es,g,pt,u,v,rfl,_⟩:=h
  rfl
 ·obtain⟨p,r,n,qa,ts,es,g,pt,u,v,rfl,N,hR,htl,h64,q⟩:=h
  refine⟨_,Zb (Zl (i:=5) scTu.nd rfl (Or.inl rfl) (Z8 Jv rfl T.list ZhV (Zc (pv 1) Za)))
   (Zb (ZG QD rfl (Y8 (Zs FC hr (Zc (pv 0) (Zc (pv 1) (Zc (pv 2) (Zc (pv 3) (Zc (pv 4) Za))))))) (Zu (i:=6) scTu.nd rfl (Or.inl rfl))
    (Zf (JU (YH (Zp ZK (Zk Zj (pv 1) (pv 6) (fun _ _=>rfl)) (pv 3) (Zx _)) (pv 4) (pv 3)) (JV (pv 5) (pv 6) Yl))))
   (Zf (Zn (Z8 Z6 rfl T.tuple Y2 (Zc (pv 5) Za))))),_,rfl,r,_,rfl,.inr (SqT.of hR),fun j hro=>?_⟩
  have s0:Same H (upd H j (.lst (tv g))):=Zh hro;refine⟨_,rfl,_,rfl,_,rfl,_,rfl,_,rfl,p,r,n,qa,ts,es,g,pt,u,v,rfl,N.same s0,s0 _ _ hR,htl,h64,fun H1 t S s1 ht hS hRT=>?_⟩;have m:=s1 _ _ Zd;refine⟨t,rfl,⟨_,SqT.of ht⟩,Y5 (K:=K) (a:=t) (xs:=nl S) (fun i σ G=>∃v6,σ=[some (.ref p),some (.ref r),some (.int pt),some (.int u),some (.int (v:Int)),some (.ref j),v6]/\Same H G/\G t=some (.tup (nl S))/\G j=some (.lst (tv (trn g u v (S.take i)))))
   ⟨_,rfl,(Same.trans s0 s1),ht,m⟩ (fun i σ G _⟨_,_,_,z,_⟩=>SqT.of z) (fun i y σ G hy xq1=>?_) (fun σ G xq1=>?_)⟩
  ·obtain⟨v6,e,SG,gt,gr⟩:=xq1
   subst e;obtain⟨k,hk,rfl⟩:∃k,S[i]?=some k/\y=V.int (k:Int):=by
    unfold nl at hy;rw[Qx]at hy;cases z:S[i]? with
    |none=>rw[z]at hy;cases hy
    |some k=>rw[z]at hy;cases hy;exact⟨k,rfl,rfl⟩
   have hke:=((hRT k).mp (Qj hk)).1;have hkt:k<g.length:=by omega
   have hgd:g.getD k none=g[k]:=by rw[Qi,Qb hkt];rfl
   have fin:∀o,o=swp g u v k->∃w6:Option V,([some (.ref p),some (.ref r),some (.int (pt:Int)),some (.int (u:Int)),some (.int (v:Int)),some (.ref j),some (.int (k:Int))]:St)=[some (.ref p),some (.ref r),some (.int (pt:Int)),some (.int (u:Int)),some (.int (v:Int)),some (.ref j),w6]/\Same H (upd G j (.lst ((tv (trn g u v (S.take i))).set k (tN o))))/\(upd G j (.lst ((tv (trn g u v (S.take i))).set k (tN o)))) t=some (.tup (nl S))/\(upd G j (.lst ((tv (trn g u v (S.take i))).set k (tN o)))) j=some (.lst (tv (trn g u v (S.take (i+1))))):=fun o ho=>by
    subst ho;refine⟨_,rfl,SG.wr hro,by rw[Zi (show t≠j from fun z=>by rw[z,m]at ht;cases ht)];exact gt,?_⟩;rw[Zd,ZdZ,Ue,hk];show _=some (HO.lst (tv (trn g u v (S.take i++[k]))));rw[Zg6]
   have hlk:k<(tv (trn g u v (S.take i))).length:=by rw[ZaA,Je];exact hkt
   refine⟨_,rfl,_,rfl,r,_,_,_,rfl,rfl,SqT.of (SG _ _ hR),Zv (ZaB (Qb hkt)),_,rfl,(by cases g[k]<;>rfl),_,rfl,?_⟩
   refine Z3 (fun hz=>?_) (fun hz=>?_)
   ·refine⟨_,rfl,_,rfl,_,rfl,j,_,k,rfl,rfl,gr,hlk,fin (some v) ?_⟩
    unfold swp;rw[hgd,if_pos];cases ho:g[k]with
    |none=>rw[ho]at hz;cases hz
    |some t=>
     rw[ho]at hz;have:=V.int.inj (Qr hz);rw[show t=u by omega]
   ·refine⟨_,rfl,_,rfl,_,rfl,j,_,k,rfl,rfl,gr,hlk,fin (some u) ?_⟩
    unfold swp;rw[hgd,if_neg];intro ho;rw[ho]at hz;exact hz (Qu rfl)
  ·obtain⟨v6,e,SG,gt,gr⟩:=xq1
   subst e;rw[Zy,UL]at gr;exact⟨_,rfl,j,_,rfl,.inl gr,fun t2 H3 s3 ht2=>q H3 t2 S (Same.trans SG s3) ht2 hS hRT⟩
end
def ShSt(H:Hp)(l:Addr)(sl:List Stp):Prop:=∃tr:List (Addr×Stp),H l=some (.lst (tr.map fun x=>V.ref x.1))/\tr.map (·.2)=sl/\∀x∈tr,H x.1=some (.tup (stV x.2))
theorem ShSt.same{l}{sl}(h:ShSt H l sl)(s:Same H H'):ShSt H' l sl:=let⟨d,a,b,c⟩:=h;⟨d,s _ _ a,b,fun x e=>s _ _ (c x e)⟩
def Zba(es:List (Nat×Nat))(x i:Nat):List Nat:=(List.range i).filter fun j=>atB (es.getD j (0,0)) x
theorem ZhW{es}{x i}(h:At (es.getD i (0,0)) x):Zba es x (i+1)=Zba es x i++[i]:=by
 unfold Zba;rw[UA,Uv,Ub,if_pos (atB_iff.mpr h)];rfl
theorem Zgy{es}{x i}(h:¬At (es.getD i (0,0)) x):Zba es x (i+1)=Zba es x i:=by
 unfold Zba;rw[UA,Uv,Ub,if_neg (fun z=>h (atB_iff.mp z))];simp
theorem ZaT(es)(x i):(Zba es x i).length<=i:=QM (Uy _ _) (by grind)
section
variable{P:Program}{w:World}{K:PySem.W.Frag}{mg:Str->Option Value}{base:Heap}
abbrev sAt:Stmt:=top 3
abbrev Zjh:Scope:=compScope (retE (stOf 3 0))
inductive spAt(vs:List V)(H:Hp)(Q:VK)(_z3:XK):Prop
 |mk (p:Addr) (n:Nat) (q:Addr) (ts:List V) (es:List (Nat×Nat)) (x:Nat) (_:vs=[.ref p,.int x]) (_:NetZ H p n q ts es) (_:∀H' t,Same H H'->H' t=some (.tup (nl (ats es x)))->Q (.ref t) H')
theorem Zmz:(["tie","ends","point"]:List Str).Nodup:=by decide+kernel
theorem Zn7:Zm ["net","point"] ["net","point"] (Zg sAt):=⟨rfl,rfl,rfl,by decide+kernel,rfl,by decide+kernel,by decide+kernel⟩
theorem ZmU{f}{cdv}{A}{outer}{s}{H}{E}:
  Blk (Yg CX0 P w K mg base ["net","point"] "ties_at" (Zg sAt) f cdv A outer s H E).nox Zjh [("point",s.heap.objs.size+1)] ["tie","ends","point"] [none,none,some 1]:=by
 refine⟨rfl,rfl,by decide+kernel,by decide+kernel,fun p d=>?_,fun y g e=>?_,⟨rfl,rfl,rfl⟩,trivial⟩
 ·rw[Qf.mp d]
  rfl
 ·have _:y∈[((PySem.Str.ofString _),NameKind.local),(PySem.Str.ofString _,.local),(PySem.Str.ofString _,.local),(PySem.Str.ofString _,.free)]:=g
  grind
theorem Zmw(F:Fun K "ties_at" "ties_at" sAt f fd)(T:Bi mg)(hen:mg "enumerate"=none):FnOk P w K mg base CX0 1 f fd ["net","point"] spAt:=by
 refine F.ok Zn7 (fun vs H Q E h=>?_) (fun cdv A _ s H vs Q E hr h=>?_)
 ·obtain⟨p,n,q,u,g,x,rfl,_⟩:=h
  rfl
 ·obtain⟨p,n,qa,u,g,x,rfl,N,q⟩:=h
  refine⟨_,Zf (Zn (Z8 Z6 rfl T.tuple Y2 (Zc (Zkn ZmU rfl rfl hen (Zc (Zk Zj (pv 0) Ze (fun _ _=>rfl)) Za) (Z7 (YI (Z9 0) (JX _)) Ye) rfl
   (fun C o s H=>Zfa (K:=K) (n:=2) rfl rfl (@ZP _ _ _ _ _ (Zu (i:=0) Zmz rfl (Or.inl rfl) (hf:=Or.inr rfl)) (@ZP _ _ _ _ _ (Zu (i:=1) Zmz rfl (Or.inl rfl) (hf:=Or.inr rfl)) Ji rfl) rfl) rfl rfl)
   (fun C o s H=>Y4 (Zp (Ze0 rfl) (pv 2) (pv 1) rfl)) (fun C o s H=>pv 0)) Za))),_,rfl,p,_,_,_,rfl,rfl,SqT.of N.e1,rfl,qa,u,rfl,SqT.of N.e2,(by have:=N.len;have:=N.l200;omega),fun i e σ j=>Same H j/\e=nl (Zba g x i)/\∃m r,σ=[m,r,some (.int x)],⟨Same.refl H,rfl,none,none,rfl⟩,fun i e σ j hi xq1=>?_,fun i y e σ j hx xq1 Tt B c v=>?_,fun e σ j xq1 l B c hl=>?_⟩
  ·obtain⟨b,d,_⟩:=xq1
   subst d;exact⟨SqT.of (b _ _ N.e2),by rw[Zy];exact ZaT _ _ _⟩
  ·obtain⟨b,d,m,r,D⟩:=xq1
   subst d D;obtain⟨a,rfl,ha⟩:=N.tie i y hx;refine⟨Tt,_,rfl,SqT.of v,rfl,_,_,rfl,_,_,rfl,rfl,_,rfl,_,rfl,a,_,rfl,.inr (SqT.of (c _ _ (b _ _ ha))),rfl,rfl,_,rfl,Z3 (fun k=>⟨_,rfl,Same.trans b c,?_,_,_,rfl⟩) (fun k=>⟨Same.trans b c,?_,_,_,rfl⟩)⟩
   ·rw[ZhW ((ZaY x (g.getD i (0,0))).mp k),<-nl_app]
   ·rw[Zgy fun z=>k ((ZaY x (g.getD i (0,0))).mpr z)]
  ·obtain⟨b,d,_⟩:=xq1
   subst d;refine⟨l,_,rfl,.inl hl,fun t H3 s3 ht=>q H3 t (Same.trans (Same.trans b c) s3) ?_⟩;rw[ht,N.len];rfl
end
end My
namespace L2
open PySem
theorem ZcZ(h:JR t):Jb (tCB rSortedD t):=fun σ H Q _ k q=>h σ H _ _ (fun _ _⟨d,_,l,a,b,c,e,q⟩=>⟨d,_,l,a,b,c,e,fun p f g m n i j=>k _ _ (q p f g m n i j)⟩) q
theorem ZfQ{κ}[DecidableEq κ]{kvs:List (κ×V)}{k}(v){y}(h:ZD kvs k=some y):(putK kvs k v).map (·.1)=kvs.map (·.1):=by
 unfold putK;rw[if_pos (show(kvs.any fun a=>decide _)=_ by rw[YD,h];rfl),U4];refine U7 fun a _=>?_
 grind
end L2
namespace My
open PySem L2
structure Times(H:Hp)(d:Addr)(kvs:List (Key×V))(n:Nat)(f:Nat->Nat):Prop where
 dd:H d=some (.dK kvs)
 val:∀x,ZD kvs (kN x)=if f x=0 then none else some (.int (f x:Int))
 keys:∃ks:List Nat,kvs.map (·.1)=ks.map kN/\ks.Nodup/\∀x∈ks,x<n
theorem Times.len(h:Times H d kvs n f):kvs.length<=n:=by
 obtain⟨b,e,a,c⟩:=h.keys;rw[(show kvs.length=b.length by have:=UZ List.length e;simpa using this)];exact ZaJ a c
theorem Times.put{d}{kvs}{n x}{f}(h:Times H d kvs n f)(hx:x<n):
  Times (upd H' d (.dK (putK kvs (kN x) (.int ((f x)+1))))) d (putK kvs (kN x) (.int ((f x)+1))) n (fun y=>f y+if x=y then 1 else 0):=by
 refine⟨Zd,fun y=>?_,?_⟩
 ·rw[Yp]
  by_cases e:y=x
  ·simp_all
  ·rw[if_neg (fun z=>e (Ze8 z)),h.val y,if_neg (Ne.symm e),Nat.add_zero]
 ·obtain⟨g,e,k,j⟩:=h.keys
  cases i:ZD _ (kN x)with
  |none=>
   have _:x ∉ g:=fun z=>by have:=(vin e x).mpr z;rw[i]at this;cases this
   refine⟨g++[x],by rw[Zb3 _ i,QO,e,QO];rfl,?_,fun y l=>?_⟩
   ·rw[Ud]
    exact⟨k,QN.mpr ⟨Qt,Q4⟩,fun a _ b _ z=>by simp_all⟩
   ·rcases Qw.mp l with z|z
    ·exact j y z
    ·rw[Qf.mp z];exact hx
  |_ y=>exact⟨g,by rw[ZfQ _ i,e],k,j⟩
theorem Times.wr{d}{kvs}{n}{f}(h:Times H d kvs n f)(hs:Same H H'):Times H' d kvs n f:=⟨hs _ _ h.dd,h.val,h.keys⟩
theorem Times.ext(h:Times H d kvs n f)(e:∀x,f x=g x):Times H d kvs n g:=(funext e)▸h
theorem ZhM(es)(l)(k x):deg es (l++[k]) x=deg es l x+(if(es.getD k (0,0)).1=x then 1 else 0)+(if(es.getD k (0,0)).2=x then 1 else 0):=by
 rw[ZbT];show _+(_+_+0)=_;omega
theorem Zht{ns:List _}{fk:List _}(hp:ns.Perm (fk.map fun x:Nat=>(x:Int))):ns.map V.int=nl (ns.map Int.toNat)/\(ns.map Int.toNat).Perm fk:=by
 have c:∀x∈ns,0<=x:=fun x b=>by
  obtain⟨y,_,rfl⟩:=QQ.mp (hp.mem_iff.mp b);simp
 constructor
 ·unfold nl
  rw[U4];refine U7 fun x b=>?_;show V.int x=V.int _;rw[US (c x b)]
 ·have:=hp.map Int.toNat
  rw[U4]at this;have e:fk.map (Int.toNat∘fun x:Nat=>(x:Int))=fk:=by
   conv=>rhs;rw[<-List.map_id fk]
   exact U7 fun x _=>rfl
  rwa [e]at this
theorem Zgf{ns:List _}(h:ns.Pairwise (·<=·)):(ns.map Int.toNat).Pairwise (·<=·):=by
 rw[Ul];exact h.imp fun z=>Int.toNat_le_toNat z
section
variable{P:Program}{w:World}{K:PySem.W.Frag}{mg:Str->Option Value}{base:Heap}
abbrev sCe:Stmt:=top 9
abbrev nCe:List Str:=["net","tints","point","one","other","times","tie","end"]
abbrev Zjf:Scope:=compScope (retE (stOf 9 2))
inductive spCe(vs:List V)(H:Hp)(Q:VK)(_z3:XK):Prop
 |mk (p r:Addr) (n:Nat) (q:Addr) (ts:List V) (es:List (Nat×Nat)) (tl:List (Option Nat)) (pt u v:Nat) (_:vs=[.ref p,.ref r,.int (pt:Int),.int (u:Int),.int (v:Int)]) (_:NetZ H p n q ts es) (_:H r=some (.tup (tv tl))) (_:tl.length=es.length) (_:es.length<64) (_:∀H' t S E,Same H H'->H' t=some (.tup (nl E))->S.Pairwise (·<·)->(∀k,k∈S↔RT es tl u v pt k)->E.Pairwise (·<·)->(∀x,x∈E↔deg es S x=1)->Q (.ref t) H')
theorem ZnT:(["end","times"]:List Str).Nodup:=by decide+kernel
theorem scCe:Zm nCe ["net","tints","point","one","other"] (Zg sCe):=⟨rfl,rfl,rfl,by decide+kernel,rfl,by decide+kernel,by decide+kernel⟩
theorem ZmT:
  Blk (Yg CX0 P w K mg base nCe "chain_ends" (Zg sCe) f cdv A outer s H E).nox Zjf [("times",s.heap.objs.size+1)] ["end","times"] [none,some 5]:=by
 refine⟨rfl,rfl,by decide+kernel,by decide+kernel,fun p d=>?_,fun y g e=>?_,⟨rfl,rfl,rfl⟩,trivial⟩
 ·rw[Qf.mp d]
  rfl
 ·have c:y∈[((PySem.Str.ofString _),NameKind.local),(PySem.Str.ofString _,.local),(PySem.Str.ofString _,.free)]:=g
  simp[Qn,Qt,Q3]at c
  grind
def DJ(f:Nat->Nat)(e:Nat×Nat):Nat->Nat->Nat
 |0=>f
 |1=>fun y=>f y+if e.1=y then 1 else 0
 |_=>fun y=>(f y+if e.1=y then 1 else 0)+if e.2=y then 1 else 0
theorem Zmt(F:Fun K "chain_ends" "chain_ends" sCe f fd)(T:Bi mg)(hso:mg "sorted"=none)(FC:FnE P w K mg base "chain" ["net","tints","point","one","other"] 2 spCh):FnOk P w K mg base CX0 3 f fd ["net","tints","point","one","other"] spCe:=by
 refine F.ok scCe (fun vs H Q E h=>?_) (fun cdv A outer s H vs Q E hr h=>?_)
 ·obtain⟨p,r,n,q,ts,g,tl,pt,u,v,rfl,_⟩:=h
  rfl
 ·obtain⟨p,r,n,qa,ts,g,tl,pt,u,v,rfl,N,hR,htl,h64,q⟩:=h
  have hu:=Zc3 hr;refine⟨_,Zb (Zl (i:=5) scCe.nd rfl (Or.inr rfl) Zap)
   (Zb (ZG QD rfl (Y8 (Zs FC hr (Zc (pv 0) (Zc (pv 1) (Zc (pv 2) (Zc (pv 3) (Zc (pv 4) Za))))))) (Zu (i:=6) scCe.nd rfl (Or.inl rfl))
    (Zf (ZG QD rfl (Y8 (Zk Zj (Zk Zj (pv 0) Ze (fun _ _=>rfl)) (pv 6) (fun _ _=>rfl))) (Zu (i:=7) scCe.nd rfl (Or.inl rfl))
     (Zf (Jh hu (pv 5) (pv 7) (Zt ZS (Zd6 hu (pv 5) (pv 7) Ze ⟨rfl,rfl,rfl,rfl⟩) Ze) rfl)))))
   (Zf (Zn (Z8 Z6 rfl T.tuple Y2 (Zc (ZgR ZmT rfl (Zo (Za3 hr) rfl hso Zbm (Zc (pv 5) Za)) (ZcZ (Z7 (Z9 5) Ye)) (fun C fp s H=>Zu (i:=0) ZnT rfl (Or.inl rfl)) (fun C fp s H=>Y4 (Zp ZK (Zaq hu (pv 1) (pv 0) (fun _ _=>rfl)) Ze (Zx _))) (fun C fp s H=>pv 0)) Za))))),?_⟩
  intro d hd;have T0:Times (upd H d (.dK [])) d [] n (deg g []):=⟨Zd,fun x=>rfl,[],rfl,Q4,fun x hx=>by cases hx⟩;have s0:Same H (upd H d (.dK [])):=Zh hd;refine⟨_,rfl,_,rfl,_,rfl,_,rfl,_,rfl,p,r,n,qa,ts,g,tl,pt,u,v,rfl,N.same s0,s0 _ _ hR,htl,h64,fun H1 t S s1 ht hS hRT=>⟨t,rfl,⟨_,SqT.of ht⟩,Y5 (K:=K) (a:=t) (xs:=nl S) (fun i σ G=>E3 fun c v6 v7=>σ=[some (.ref p),some (.ref r),some (.int (pt:Int)),some (.int (u:Int)),some (.int (v:Int)),some (.ref d),v6,v7]/\Same H G/\G t=some (.tup (nl S))/\Times G d c n (deg g (S.take i)))
   ⟨[],_,_,rfl,(Same.trans s0 s1),ht,T0.wr s1⟩ (fun i σ G _⟨_,_,_,_,_,z,_⟩=>SqT.of z) (fun i y σ G hy xq1=>?_) (fun σ G xq1=>?_)⟩⟩
  ·obtain⟨c,v6,v7,e,SG,gt,TG⟩:=xq1
   subst e;obtain⟨k,hk,rfl⟩:∃k,S[i]?=some k/\y=V.int (k:Int):=by
    unfold nl at hy;rw[Qx]at hy;cases z:S[i]? with
    |none=>rw[z]at hy;cases hy
    |some k=>rw[z]at hy;cases hy;exact⟨k,rfl,rfl⟩
   have hke:=((hRT k).mp (Qj hk)).1;obtain⟨a,ha,hta⟩:=N.at' hke;have hok:=N.ok _ (getD_mem hke);have h60:=N.n60;refine⟨_,rfl,p,_,_,_,rfl,rfl,SqT.of (SG _ _ N.e1),rfl,_,rfl,qa,_,_,_,rfl,rfl,SqT.of (SG _ _ N.e2),Zv ha,a,rfl,⟨_,SqT.of (SG _ _ hta)⟩,Y5 (K:=K) (a:=a) (xs:=[.int ((g.getD k (0,0)).1:Int),.int ((g.getD k (0,0)).2:Int)])
    (fun j σ G=>∃c w7,σ=[some (.ref p),some (.ref r),some (.int (pt:Int)),some (.int (u:Int)),some (.int (v:Int)),some (.ref d),some (.int (k:Int)),w7]/\Same H G/\G t=some (.tup (nl S))/\Times G d c n (DJ (deg g (S.take i)) (g.getD k (0,0)) j))
    ⟨c,_,rfl,SG,gt,TG⟩ (fun j σ G _⟨_,_,_,z,_⟩=>SqT.of (z _ _ hta)) (fun j y σ G hy xq1=>?_) (fun σ G xq1=>?_)⟩
   ·obtain⟨c,w7,e,SG,gt,TG⟩:=xq1
    subst e;obtain⟨x,rfl,hxn,hdj⟩:∃x:Nat,y=V.int (x:Int)/\x<n/\(∀z,DJ (deg g (S.take i)) (g.getD k (0,0)) (j+1) z=DJ (deg g (S.take i)) (g.getD k (0,0)) j z+if x=z then 1 else 0):=by
     match j,hy with
     |0,hy=>cases hy;exact⟨_,rfl,hok.1,fun z=>rfl⟩
     |1,hy=>cases hy;exact⟨_,rfl,hok.2.1,fun z=>rfl⟩
    have hval:(ZD c (kN x)).getD (V.int 0)=V.int (DJ (deg g (S.take i)) (g.getD k (0,0)) j x:Int):=by
     rw[TG.val];by_cases z:DJ (deg g (S.take i)) (g.getD k (0,0)) j x=0
     ·rw[if_pos z,z];rfl
     ·rw[if_neg z];rfl
    have hkl:=TG.len;exact⟨_,rfl,d,rfl,.inl ⟨c,.inl TG.dd⟩,_,rfl,_,DGet.k (k:=kN x) TG.dd,_,_,hval,rfl,_,rfl,_,rfl,d,_,rfl,DPut.k (k:=kN x) TG.dd (by rw[QP];omega),_,_,rfl,SG.wr hd,by rw[Zi (show t≠d from fun z=>by rw[z,s1 _ _ T0.dd]at ht;cases ht)];exact gt,(TG.put hxn).ext fun z=>(hdj z).symm⟩
   ·obtain⟨c,w7,e,SG,gt,TG⟩:=xq1
    subst e;refine⟨c,_,_,rfl,SG,gt,TG.ext fun x=>?_⟩;rw[Ue,hk];exact(ZhM g (S.take i) k x).symm
  ·obtain⟨c,v6,v7,e,SG,gt,TG⟩:=xq1
   subst e;rw[Zy,UL]at TG;obtain⟨ks,hks,nd,lt⟩:=TG.keys;have hl60:ks.length<=n:=ZaJ nd lt;have h60:=N.n60;have hkn:c.map (·.1)=(ks.map fun x:Nat=>(x:Int)).map Sum.inl:=by rw[hks,U4];rfl
   refine⟨_,rfl,d,c,ks.map fun x:Nat=>(x:Int),rfl,TG.dd,hkn,by rw[Qq];omega,fun l ns' H2 s2 hl2 hp hs=>?_⟩;obtain⟨hnl,m⟩:=Zht hp;rw[hnl]at hl2;have hrise:(ns'.map Int.toNat).Pairwise (·<·):=ZfM (Zgf hs) (m.nodup_iff.mpr nd);generalize ns'.map Int.toNat=L at*;have hll:L.length<=60:=by have:=m.length_eq;omega
   refine⟨l,_,rfl,SqL.of hl2,(by rw[Zy];omega),fun i ys σ G=>Same H2 G/\ys=nl ((L.take i).filter fun x=>decide (deg g S x=1))/\∃v0,σ=[v0,some (.ref d)],⟨Same.refl _,rfl,_,rfl⟩,fun i ys σ G hi xq1=>?_,fun i y ys σ G hy xq1=>?_,fun ys σ G xq1 l2 H3 s3 hl3=>?_⟩
   ·obtain⟨e1,e2,_⟩:=xq1
    subst e2;exact⟨SqL.of (e1 _ _ hl2),by rw[Zy];exact QM (Uy _ _) (List.length_take_le _ _)⟩
   ·obtain⟨e1,e2,v0,e3⟩:=xq1
    subst e2 e3;obtain⟨x,hx,rfl⟩:∃k,L[i]?=some k/\y=V.int (k:Int):=by
     unfold nl at hy;rw[Qx]at hy;cases z:L[i]? with
     |none=>rw[z]at hy;cases hy
     |some k=>rw[z]at hy;cases hy;exact⟨k,rfl,rfl⟩
    have hxk:x∈ks:=m.mem_iff.mp (Qj hx);have hsome:=(vin hks x).mpr hxk;have hv:=TG.val x;have hg:ZD c (kN x)=some (V.int (deg g S x:Int)):=by
     by_cases z:deg g S x=0
     ·rw[hv,if_pos z]at hsome;cases hsome
     ·rw[hv,if_neg z]
    have hD:DGet G d (kV (kN x)) (some (V.int (deg g S x:Int))):=by
     rw[<-hg];exact DGet.k (e1 _ _ (s2 _ _ TG.dd))
    refine⟨_,rfl,_,rfl,d,_,rfl,hD,rfl,_,rfl,Z3 (fun hz=>?_) (fun hz=>?_)⟩
    ·have e:deg g S x=1:=by have:=V.int.inj (Qr hz);omega
     refine⟨_,rfl,e1,?_,_,rfl⟩;rw[Ue,hx,Uv];show nl _++[V.int (x:Int)]=nl (_++[x].filter _);rw[nl_app,Ub,if_pos (Qu e)];rfl
    ·have e:deg g S x≠1:=fun z=>hz (Qu (by rw[z];rfl))
     refine⟨e1,?_,_,rfl⟩;rw[Ue,hx,Uv];show nl _=nl (_++[x].filter _);rw[Ub,if_neg (fun z=>e (Qr z))];show nl _=nl (_++[]);rw[UY]
   ·obtain⟨e1,e2,_⟩:=xq1
    subst e2;rw[Zy,UL]at hl3;refine⟨l2,_,rfl,.inl hl3,fun t2 H4 s4 ht2=>q H4 t2 S _ (Same.trans (Same.trans (Same.trans (Same.trans SG s2) e1) s3) s4) ht2 hS hRT (hrise.filter _) fun x=>?_⟩;rw[Q8];constructor
    ·exact fun z=>Qr z.2
    ·refine fun e=>⟨m.mem_iff.mpr ((vin hks x).mp ?_),Qu e⟩
     rw[TG.val,if_neg (by omega)];rfl
end
theorem ZcH{es}{tl}{n m k t}(hk:k<es.length)(ht:t<m)(hC:CleanTo es (tl.set k (some t)) es.length):Wk es n m [.tint k t] tl (tl.set k (some t)):= .cons ⟨hk,ht⟩ rfl hC .nil
theorem ZaO(es:List (Nat×Nat))(tl:List (Option Nat))(u v p):∃S:List _,S.Pairwise (·<·)/\∀k,k∈S↔RT es tl u v p k:=by
 refine⟨(List.range es.length).filter fun k=>@decide (RT es tl u v p k) (Classical.propDecidable _),List.Pairwise.filter _ List.pairwise_lt_range,fun k=>?_⟩;rw[Q8,QC];exact⟨fun z=>@Qr _ (Classical.propDecidable _) z.2,fun z=>⟨z.1,@Qu _ (Classical.propDecidable _) z⟩⟩
theorem Zkc{es:List (Nat×Nat)}{tl:List (Option Nat)}{n m k M:Nat}(ok:∀e∈es,e.1<n/\e.2<n/\e.1≠e.2) (hC:CleanTo es tl es.length) (hl:tl.length=es.length) (hk:k<es.length) (hb:tl[k]?=some none) (hM:∀x,x<n->dg es es.length x<=M) (hm:3*M<=2*m+1):
  Res es tl k m n (n+1) (Zju es tl k m):=by
 have hok:=ok _ (getD_mem hk);have M1:1<=M:=by
  have h1:=ZdS hk hb (x:=(es.getD k (0,0)).1) (.inl rfl);have h2:=hM _ hok.1;omega
 have hMm:M<=m:=by omega
 unfold Zju;split
 ·rename_i h0
  have hin:=head_mem h0;generalize(both es tl (es.getD k (0,0)).1 (es.getD k (0,0)).2 m).getD 0 0=t at hin;obtain⟨t1,t2,t3⟩:=both_mem.mp hin;have c1:=Ya hC hl hk t2 t3;refine⟨⟨_,ZcH hk t1 c1,by rw[QT];exact hl,c1,⟨t,by rw[Qy,if_pos rfl,if_pos (by omega)]⟩,fun j hj=>by rw[Qy,if_neg (fun z=>hj z.symm)],[],QE _,fun j hj z=>?_⟩,by show 1<=4;decide⟩;exact absurd (by rw[Qy,if_neg (fun z=>hj z.symm)]) z
 ·rename_i h0
  have noab:∀t,t<m->¬Used es tl es.length (es.getD k (0,0)).1 t->¬Used es tl es.length (es.getD k (0,0)).2 t->False:=fun t a b c=>h0 (QZ (both_mem.mpr ⟨a,b,c⟩));have hgv:=frees_mem.mp (head_mem (Yo (m:=m) hk hb (x:=(es.getD k (0,0)).2) (.inr rfl) (hM _ hok.2.1) hMm));have egv:(frees es tl (es.getD k (0,0)).2 m).getD 0 0=YX es tl k m:=rfl;rw[egv]at hgv;have hua:Used es tl es.length (es.getD k (0,0)).1 (YX es tl k m):=Qv fun z=>noab _ hgv.1 z hgv.2;have hgi:0<(YS es tl (es.getD k (0,0)).1 (YX es tl k m)).length:=by
   obtain⟨j,a,b,c⟩:=hua;exact QZ ((Js hl).mpr ⟨a,c,b⟩)
  have hg:=(Js hl).mp (head_mem hgi);have eg:(YS es tl (es.getD k (0,0)).1 (YX es tl k m)).getD 0 0=gOf es tl k m:=rfl;rw[eg]at hg;obtain⟨hgl,hga,hgt⟩:=hg;have hgk:gOf es tl k m≠k:=fun z=>by rw[z,hb]at hgt;cases hgt
  have ec:oth (es.getD (gOf es tl k m) (0,0)) (es.getD k (0,0)).1=cOf es tl k m:=rfl;have hatc:At (es.getD (gOf es tl k m) (0,0)) (cOf es tl k m):=ZcU _ _;have hgok:=ok _ (getD_mem hgl);have hcn:cOf es tl k m<n:=by rcases hatc with e|e<;>omega
  have hca:cOf es tl k m≠(es.getD k (0,0)).1:=fun z=>by
   have h1:=ec;unfold oth at h1;rw[z]at h1;split at h1
   ·rename_i e
    exact hgok.2.2 (e.trans h1.symm)
   ·rename_i e
    exact e h1
  have hcb:cOf es tl k m≠(es.getD k (0,0)).2:=fun z=>hgv.2 ⟨gOf es tl k m,hgl,hgt,by rw[<-z];exact hatc⟩;unfold roomOf;split
  ·rename_i h1
   have hin:=both_mem.mp (head_mem (l:=both es tl (es.getD k (0,0)).1 (cOf es tl k m) m) h1);have es':(both es tl (es.getD k (0,0)).1 (cOf es tl k m) m).getD 0 0=(ZcM es tl k m).getD 0 0:=rfl;rw[es']at hin;obtain⟨n1,n2,n3⟩:=hin;obtain⟨w1,w2⟩:=Zfu (n:=n) (m:=m) hC hl hk hgl hgk rfl rfl hgt hga hgv.1 n1 hgv.2 n2 (by rw[ec];exact n3);refine⟨⟨_,w1,by rw[QT,QT,QT];exact hl,w2,⟨_,Zhy hgk (by omega)⟩,fun j hj=>Zc4 hgt hgk hj,[gOf es tl k m],by show 1<=n+1;omega,fun j hj z=>?_⟩,by show 3<=4;decide⟩;rw[ZdL hj z];exact .head _
  ·rename_i h1
   have noac:∀t,t<m->¬Used es tl es.length (es.getD k (0,0)).1 t->¬Used es tl es.length (cOf es tl k m) t->False:=fun t a b c=>h1 (QZ (l:=both es tl (es.getD k (0,0)).1 (cOf es tl k m) m) (both_mem.mpr ⟨a,b,c⟩));have hnr:=frees_mem.mp (head_mem (Yo (m:=m) hk hb (x:=(es.getD k (0,0)).1) (.inl rfl) (hM _ hok.1) hMm));have enr:(frees es tl (es.getD k (0,0)).1 m).getD 0 0=J8 es tl k m:=rfl;rw[enr]at hnr;obtain⟨t0,s1,s2,s3⟩:=ZeU (c:=cOf es tl k m) hk hb (.inl rfl) (.inr rfl) (hM _ hok.1) (hM _ hok.2.1) (hM _ hcn) hm noab noac;have hfr:=both_mem.mp (head_mem (QZ (both_mem.mpr ⟨s1,s2,s3⟩)));have efr:(both es tl (es.getD k (0,0)).2 (cOf es tl k m) m).getD 0 0=Zaa es tl k m:=rfl;rw[efr]at hfr;obtain⟨f1,f2,f3⟩:=hfr;have ufa:Used es tl es.length (es.getD k (0,0)).1 (Zaa es tl k m):=Qv fun z=>noab _ f1 z f2;have unb:Used es tl es.length (es.getD k (0,0)).2 (J8 es tl k m):=Qv fun z=>noab _ hnr.1 hnr.2 z;have unc:Used es tl es.length (cOf es tl k m) (J8 es tl k m):=Qv fun z=>noac _ hnr.1 hnr.2 z;have hnf:J8 es tl k m≠Zaa es tl k m:=fun z=>hnr.2 (by rw[z];exact ufa);generalize ha:(es.getD k (0,0)).1=a at*;generalize hb':(es.getD k (0,0)).2=b at*;generalize hc':cOf es tl k m=c at*;generalize hg':gOf es tl k m=g at*;generalize hv':YX es tl k m=gv at*;generalize hn':J8 es tl k m=nr at*;generalize hf':Zaa es tl k m=fr at*;have hgn:gv≠nr:=fun z=>hnr.2 (by rw[<-z];exact hua);have hgf:gv≠fr:=fun z=>f3 ⟨g,hgl,by rw[<-z];exact hgt,hatc⟩;obtain⟨S,hS,hR⟩:=ZaO es tl nr fr a;have hSn:S.Nodup:=hS.imp fun z=>Qo z;obtain⟨k0,k1,k2,k3⟩:=ufa;have rt0:RT es tl nr fr a k0:=⟨k1,.inr k2,a,.start,k3⟩;have dga:deg es S a=1:=by
    have h1:=Za1 ((hR k0).mpr rt0) k3;have h2:=Zbl hS hR ok hC (x:=a) (.inl hnr.2);omega
   have on:∀x,RP es tl nr fr a x->(¬Used es tl es.length x nr\/¬Used es tl es.length x fr)->deg es S x=1:=fun x hx hf=>by
    obtain⟨j,h1,h2⟩:=Zeq hx ⟨k0,rt0⟩;have h3:=Za1 ((hR j).mpr h1) h2;have h4:=Zbl hS hR ok hC hf;omega
   split
   ·
    rename_i hE
    obtain⟨S',hS',hR',hdb⟩:=hE;have eS:S'=S:=YF hS' hS fun x=>by rw[hR' x,hR x]
    rw[eS]at hdb;have hncA:¬RP es tl nr fr a c:=fun z=>Zbu ok hok.1 hC hS hR dga hdb (on c z (.inr f3)) hok.2.2 (Ne.symm hca) (Ne.symm hcb);obtain⟨S2,hS2,hR2⟩:=ZaO es tl nr fr c;have hI2:∀j∈S2,InP tl nr fr j:=fun j hj=>((hR2 j).mp hj).2.1;have back:∀{x y:Nat},RP es tl nr fr x y->RP es tl nr fr y x:=fun{x y} h=>by
     induction h with
     |start=>exact .start
     |step hx hk' hi ha1 hb1 ih=>
      have tr:∀{p q r:Nat},RP es tl nr fr p q->RP es tl nr fr q r->RP es tl nr fr p r:=fun{p q r} h1 h2=>by
       induction h2 with
       |start=>exact h1
       |step _ a1 a2 a3 a4 ih2=>exact .step ih2 a1 a2 a3 a4
      exact tr (.step .start hk' hi hb1 ha1) ih
    have hnaC:¬RP es tl nr fr c a:=fun z=>hncA (back z);have c1:=JF hnf hR2 hC;have l1:(trn tl nr fr S2).length=es.length:=by rw[Je];exact hl
    have g1:(trn tl nr fr S2)[g]?=some (some gv):=(JB hnf hI2 hgn hgf).mpr hgt;have na:¬Used es (trn tl nr fr S2) es.length a nr:=fun z=>hnr.2 ((Jx hR2 hnaC).mp z);have nb:¬Used es (trn tl nr fr S2) es.length b gv:=fun z=>hgv.2 ((Zco hnf hI2 hgn hgf).mp z);have nc:¬Used es (trn tl nr fr S2) es.length c nr:=fun z=>by
     have h2:=(YT hnf hR2 (x:=c) .start (t:=nr) (.inl rfl)).mp z;have e:swt nr fr nr=fr:=by unfold swt;rw[if_pos rfl]
     rw[e]at h2;exact f3 h2
    obtain⟨w1,w2⟩:=Zfu (n:=n) (m:=m) c1 l1 hk hgl hgk ha hb' g1 hga hgv.1 hnr.1 nb na (by rw[ec];exact nc);refine⟨⟨_,.cons (s:= .turn c nr fr) ⟨hcn,hnr.1,f1,hnf⟩ ⟨S2,hS2,hR2,rfl⟩ c1 w1,by rw[QT,QT,QT];exact l1,w2,⟨_,Zhy hgk (by omega)⟩,fun j hj=>(Zc4 g1 hgk hj).trans (Ja hI2),g::S2,?_,fun j hj z=>?_⟩,by show 4<=4;decide⟩
    ·rw[QL]
     have:=ZaP ok hC hS2 hR2;omega
    ·by_cases hjS:j∈S2
     ·exact .tail _ hjS
     ·rw[<-Yk (tl:=tl) (u:=nr) (v:=fr) hjS]at z
      rw[ZdL hj z];exact .head _
   ·
    rename_i hE
    have hnb:¬RP es tl nr fr a b:=fun z=>hE ⟨S,hS,hR,on b z (.inr f2)⟩;have hI:∀j∈S,InP tl nr fr j:=fun j hj=>((hR j).mp hj).2.1;have c1:=JF hnf hR hC;have l1:(trn tl nr fr S).length=es.length:=by rw[Je];exact hl
    have na:¬Used es (trn tl nr fr S) es.length a fr:=fun z=>by
     have h2:=(YT hnf hR (x:=a) .start (t:=fr) (.inr rfl)).mp z;have e:swt nr fr fr=nr:=by unfold swt;rw[if_neg (fun z=>hnf z.symm)]
     rw[e]at h2;exact hnr.2 h2
    have nb:¬Used es (trn tl nr fr S) es.length b fr:=fun z=>f2 ((Jx hR hnb).mp z);have c2:=Ya c1 l1 hk (t:=fr) (by rw[ha];exact na) (by rw[hb'];exact nb);refine⟨⟨_,.cons (s:= .turn a nr fr) ⟨hok.1,hnr.1,f1,hnf⟩ ⟨S,hS,hR,rfl⟩ c1 (ZcH hk f1 c2),by rw[QT];exact l1,c2,⟨fr,by rw[Qy,if_pos rfl,if_pos (by omega)]⟩,fun j hj=>?_,S,?_,fun j hj z=>?_⟩,by show 2<=4;decide⟩
    ·rw[Qy,if_neg (fun z=>hj z.symm)]
     exact Ja hI
    ·have:=ZaP ok hC hS hR
     omega
    ·apply Qv
     intro hjS;apply z;rw[Qy,if_neg (fun z=>hj z.symm),Yk hjS]
end My
namespace L2
open PySem PySem.Spec PyProof.Rows
theorem ZiM{K}(hK:X.K=K):IxR X (ZfP K):=by
 subst hK;exact Zj
end L2
namespace My
open PySem L2
section
variable{P:Program}{w:World}{K:PySem.W.Frag}{mg:Str->Option Value}{base:Heap}
abbrev sHo:Stmt:=top 29
inductive spHo(vs:List V)(H:Hp)(Q:VK)(_z3:XK):Prop
 |mk (k g gv nw:Nat) (_:vs=[.int k,.int g,.int gv,.int nw]) (_:∀H' l,Same H H'->H l=none->ShSt H' l (handed k g gv nw)->Q (.ref l) H')
theorem Zn4:Zm ["tie","giver","given","new"] ["tie","giver","given","new"] (Zg sHo):=⟨rfl,rfl,rfl,by decide+kernel,rfl,by decide+kernel,by decide+kernel⟩
theorem Zmk(F:Fun K "handed_over" "handed_over" sHo f fd):FnOk P w K mg base CX0 1 f fd ["tie","giver","given","new"] spHo:=by
 refine F.ok Zn4 (fun vs H Q E h=>?_) (fun cdv A _ s H vs Q E hr h=>?_)
 ·obtain⟨k,g,gv,e,rfl,_⟩:=h
  rfl
 ·obtain⟨k,g,gv,e,rfl,q⟩:=h
  refine⟨_,Zf (Zn (ZI (Zc (Z1 (Zc ZM (Zc (pv 1) Za))) (Zc (Z1 (Zc ZM (Zc (pv 0) (Zc (pv 2) Za)))) (Zc (Z1 (Zc ZM (Zc (pv 1) (Zc (pv 3) Za)))) Za))))),_,rfl,rfl,fun a1 H1 s1 h1=>⟨_,rfl,_,rfl,rfl,fun a2 H2 j h2=>⟨_,rfl,_,rfl,rfl,fun a3 H3 d h3=>⟨(by show 3<=sizeLine;decide),fun l c=>?_⟩⟩⟩⟩;have a:=Same.trans s1 (Same.trans j d);refine q _ l (Same.trans a (Zh c)) (a.none c) ⟨[(a1,.bare g),(a2,.tint k gv),(a3,.tint g e)],Zd,rfl,fun x i=>?_⟩;simp[Qn,Qt,Q3]at i;rcases i with rfl|rfl|rfl
  ·exact Zh c _ _ (d _ _ (j _ _ h1))
  ·exact Zh c _ _ (d _ _ h2)
  ·exact Zh c _ _ h3
end
structure Rf(es:List (Nat×Nat))(tl:List (Option Nat))(k m:Nat):Prop where
 fb:0<(frees es tl (es.getD k (0,0)).2 m).length
 gi:0<(YS es tl (es.getD k (0,0)).1 (YX es tl k m)).length
 gl:gOf es tl k m<es.length
 fa:0<(frees es tl (es.getD k (0,0)).1 m).length
 bc:¬0<(ZcM es tl k m).length->0<(both es tl (es.getD k (0,0)).2 (cOf es tl k m) m).length
theorem Zer{n m k M}(ok:∀e∈es,e.1<n/\e.2<n/\e.1≠e.2) (hl:tl.length=es.length) (hk:k<es.length) (hb:tl[k]?=some none) (hM:∀x,x<n->dg es es.length x<=M) (hm:3*M<=2*m+1)
  (h0:¬0<(both es tl (es.getD k (0,0)).1 (es.getD k (0,0)).2 m).length):Rf es tl k m:=by
 have d:=ok _ (getD_mem hk);have g:M<=m:=by omega
 have f:∀t,t<m->¬Used es tl _ _ t->¬Used es tl _ _ t->False:=fun t a b c=>h0 (QZ (both_mem.mpr ⟨a,b,c⟩));have r:=Yo hk hb (.inr rfl) (hM _ d.2.1) g;have i:=frees_mem.mp (head_mem r);have h:0<(YS es tl (es.getD k (0,0)).1 (YX es tl k m)).length:=by
  obtain⟨j,a,b,c⟩:=(Qv fun z=>f _ i.1 z i.2);exact QZ ((Js hl).mpr ⟨a,c,b⟩)
 have p:=(Js hl).mp (head_mem h);rw[(show(YS es tl _ _).getD 0 0=gOf es tl k m from rfl)]at p;have _:=ok _ (getD_mem p.1);refine⟨r,h,p.1,Yo (m:=m) hk hb (x:=(es.getD k (0,0)).1) (.inl rfl) (hM _ d.1) g,fun v=>?_⟩;obtain⟨_,s,w,u⟩:=ZeU (c:=cOf es tl k m) hk hb (.inl rfl) (.inr rfl) (hM _ d.1) (hM _ d.2.1) (hM _ (show cOf es tl k m<n by rcases(show At (es.getD (gOf es tl k m) (0,0)) (cOf es tl k m)from ZcU _ _)with e|e<;>omega)) hm f (show∀t,t<m->¬Used es tl es.length (es.getD k (0,0)).1 t->¬Used es tl es.length (cOf es tl k m) t->False from fun t a b c=>v (QZ (l:=both es tl (es.getD k (0,0)).1 (cOf es tl k m) m) (both_mem.mpr ⟨a,b,c⟩)))
 exact QZ (both_mem.mpr ⟨s,w,u⟩)
theorem Zfk:∀vs H Q Q' E,(∀v H',Q v H'->Q' v H')->spAt vs H Q E->spAt vs H Q' E:=fun vs H Q Q' E k⟨p,n,q,b,a,x,e,N,z⟩=>⟨p,n,q,b,a,x,e,N,fun H' t s c=>k _ _ (z H' t s c)⟩
def Zcf(tl:List (Option Nat))(t:Nat)(l:List Nat)(i:Nat):List Nat:=(l.take i).filter fun j=>decide (tl.getD j none=some t)
theorem ZiN{t x i}{l}(hx:l[i]?=some x)(h:tl.getD x none=some t):Zcf tl t l (i+1)=Zcf tl t l i++[x]:=by
 unfold Zcf;rw[Ue,hx]
 simp_all
theorem Zhz{t x i}{l}(hx:l[i]?=some x)(h:¬tl.getD x none=some t):Zcf tl t l (i+1)=Zcf tl t l i:=by
 unfold Zcf;rw[Ue,hx]
 simp_all
theorem Zh0(tl)(t)(l)(i):(Zcf tl t l i).length<=i:=by
 refine QM (Uy _ _) ?_
 grind
theorem Zhu(k:Nat)(l):(!inV (.int k) (nl l))=true↔k ∉ l:=by
 rw[Bool.not_eq_true',U3];exact not_congr (ZbK k l)
section
variable{P:Program}{w:World}{K:PySem.W.Frag}{mg:Str->Option Value}{base:Heap}
abbrev sRm:Stmt:=top 30
def ixE:Stmt->Expr
 | .Assign _ (.Subscript e _ _) _=>e
 |_=> .Constant .none 0 ⟨0,0,0,0⟩
abbrev Ziv:Scope:=compScope (ixE (stOf 30 3))
abbrev nRm:List Str:=["net","tints","tie","many","one","other","given","giver","third","shared","near_tint","far_tint"]
structure Rm3(H:Hp)(p r:Addr)(n:Nat)(q:Addr)(ts:List V)(es:List (Nat×Nat))(tl:List (Option Nat))(k m:Nat):Prop where
 N:NetZ H p n q ts es
 hR:H r=some (.tup (tv tl))
 len:tl.length=es.length
 hk:k<es.length
 hb:tl[k]?=some none
 hC:CleanTo es tl es.length
 hm:m<=1000
 h64:es.length<64
 hM:∃M,(∀x,x<n->dg es es.length x<=M)/\3*M<=2*m+1
theorem Rm3.same{p r:Addr}{n:Nat}{q:Addr}{ts:List V}{es:List _}{tl:List _}{k m:Nat}(h:Rm3 H p r n q ts es tl k m)(s:Same H H'):Rm3 H' p r n q ts es tl k m:=
 ⟨h.N.same s,s _ _ h.hR,h.len,h.hk,h.hb,h.hC,h.hm,h.h64,h.hM⟩
inductive spRm(vs:List V)(H:Hp)(Q:VK)(_z3:XK):Prop
 |mk (p r:Addr) (n:Nat) (q:Addr) (ts:List V) (es:List (Nat×Nat)) (tl:List (Option Nat)) (k m:Nat) (_:vs=[.ref p,.ref r,.int k,.int m]) (_:Rm3 H p r n q ts es tl k m) (_:¬0<(both es tl (es.getD k (0,0)).1 (es.getD k (0,0)).2 m).length) (_:∀H' l,Same H H'->H l=none->ShSt H' l (roomOf es tl k m)->Q (.ref l) H')
theorem ZnL:(["near","given","tints"]:List Str).Nodup:=by decide+kernel
theorem scRm:Zm nRm ["net","tints","tie","many"] (Zg sRm):=⟨rfl,rfl,rfl,by decide+kernel,rfl,by decide+kernel,by decide+kernel⟩
theorem ZmL:
  Blk (Yg CX0 P w K mg base nRm "room_by_a_third" (Zg sRm) f cdv A outer s H E).nox Ziv [("tints",s.heap.objs.size+1),("given",s.heap.objs.size+2)] ["near","given","tints"] [none,some 6,some 1]:=by
 refine⟨rfl,rfl,by decide+kernel,by decide+kernel,fun p g=>?_,fun y h e=>?_,⟨rfl,rfl,rfl⟩,⟨rfl,rfl,rfl⟩,trivial⟩
 ·rcases Qn.mp g with rfl|g
  ·rfl
  ·rw[Qf.mp g]
   rfl
 ·have d:y∈[((PySem.Str.ofString _),NameKind.local),(PySem.Str.ofString _,.local),(PySem.Str.ofString _,.free),(PySem.Str.ofString _,.free)]:=h
  simp[Qn,Qt,Q3]at d;rcases d with rfl|rfl|rfl|rfl<;>first|rfl|cases e
theorem ZlV(F:Fun K "room_by_a_third" "room_by_a_third" sRm f fd)(FFt:FnE P w K mg base "free_tints" ["net","tints","point","many"] 3 spFt)(FAt:FnE P w K mg base "ties_at" ["net","point"] 3 spAt)(FAc:FnE P w K mg base "across" ["net","tie","point"] 3 spAc)
  (FFb:FnE P w K mg base "free_at_both" ["net","tints","one","other","many"] 3 spFb)(FHo:FnE P w K mg base "handed_over" ["tie","giver","given","new"] 3 spHo)(FCe:FnE P w K mg base "chain_ends" ["net","tints","point","one","other"] 3 spCe):
  FnOk P w K mg base CX0 4 f fd ["net","tints","tie","many"] spRm:=by
 refine F.ok scRm (fun vs H Q E h=>?_) (fun cdv A outer s H vs Q E hr h=>?_)
 ·obtain⟨p,r,n,q,ts,es,tl,k,m,rfl,_⟩:=h
  rfl
 ·obtain⟨p,r,n,qa,ts,es,tl,k,m,rfl,I,h0,q⟩:=h
  refine⟨_,Zb (Zl (i:=4) scRm.nd rfl (Or.inl rfl) (Zk Zj (Zk Zj (Zk Zj (pv 0) Ze (fun _ _=>rfl)) (pv 2) (fun _ _=>rfl)) Ze (fun _ _=>rfl)))
   (Zb (Zl (i:=5) scRm.nd rfl (Or.inl rfl) (Zk Zj (Zk Zj (Zk Zj (pv 0) Ze (fun _ _=>rfl)) (pv 2) (fun _ _=>rfl)) Ze (fun _ _=>rfl)))
   (Zb (Zl (i:=6) scRm.nd rfl (Or.inr rfl) (Zk Zj (Zs FFt hr (Zc (pv 0) (Zc (pv 1) (Zc (pv 5) (Zc (pv 3) Za))))) Ze (fun _ _=>rfl)))
   (Zb (Zl (i:=7) scRm.nd rfl (Or.inl rfl) (Zk Zz (Zb7 ZmL rfl (Zs FAt hr (Zc (pv 0) (Zc (pv 4) Za))) (ZaH Zfk (Z7 (Z9 0) (Z7 (Z9 4) Ye))) (fun C fp s H=>Zu (i:=0) ZnL rfl (Or.inl rfl))
    (fun C fp s H=>Y4 (Zp ZK (Zk (ZiM (K:=K) rfl) (pv 2) (pv 0) (fun _ _=>rfl)) (pv 1) rfl)) (fun C fp s H=>pv 0)) Ze (fun _ _=>rfl)))
   (Zb (Zl (i:=8) scRm.nd rfl (Or.inl rfl) (Zs FAc hr (Zc (pv 0) (Zc (pv 7) (Zc (pv 4) Za)))))
   (Zb (Zl (i:=9) scRm.nd rfl (Or.inl rfl) (Zs FFb hr (Zc (pv 0) (Zc (pv 1) (Zc (pv 4) (Zc (pv 8) (Zc (pv 3) Za)))))))
   (Zb (Z2 (YU (pv 9) (fun _=>rfl)) (Zf (Zn (Zs FHo hr (Zc (pv 2) (Zc (pv 7) (Zc (pv 6) (Zc (Zk Zj (pv 9) Ze (fun _ _=>rfl)) Za))))))) Zw)
   (Zb (Zl (i:=10) scRm.nd rfl (Or.inl rfl) (Zk Zj (Zs FFt hr (Zc (pv 0) (Zc (pv 1) (Zc (pv 4) (Zc (pv 3) Za))))) Ze (fun _ _=>rfl)))
   (Zb (Zl (i:=11) scRm.nd rfl (Or.inl rfl) (Zk Zj (Zs FFb hr (Zc (pv 0) (Zc (pv 1) (Zc (pv 5) (Zc (pv 8) (Zc (pv 3) Za)))))) Ze (fun _ _=>rfl)))
   (Zb (Z2 (Zp Zat (pv 5) (Zs FCe hr (Zc (pv 0) (Zc (pv 1) (Zc (pv 4) (Zc (pv 10) (Zc (pv 11) Za)))))) rfl)
    (Zf (Zn (ZI (Zc (Z1 (Zc ZM (Zc (pv 4) (Zc (pv 10) (Zc (pv 11) Za))))) (Zc (Z1 (Zc ZM (Zc (pv 2) (Zc (pv 11) Za)))) Za))))) Zw)
   (Zf (Zn (Zt op_cat (ZI (Zc (Z1 (Zc ZM (Zc (pv 8) (Zc (pv 10) (Zc (pv 11) Za))))) Za)) (Zs FHo hr (Zc (pv 2) (Zc (pv 7) (Zc (pv 6) (Zc (pv 10) Za))))))))))))))))),?_⟩
  have N:=I.N;obtain⟨M,hM,h3⟩:=I.hM;have R:=Zer N.ok I.len I.hk I.hb hM h3 h0;obtain⟨tk,htk,hta⟩:=N.at' I.hk;refine⟨_,rfl,p,_,_,_,rfl,rfl,SqT.of N.e1,rfl,_,rfl,qa,_,_,_,rfl,rfl,SqT.of N.e2,Zv htk,tk,_,_,_,rfl,rfl,SqT.of hta,rfl,_,rfl,p,_,_,_,rfl,rfl,SqT.of N.e1,rfl,_,rfl,qa,_,_,_,rfl,rfl,SqT.of N.e2,Zv htk,tk,_,_,_,rfl,rfl,SqT.of hta,rfl,_,rfl,_,rfl,_,rfl,_,rfl,p,r,n,qa,ts,es,tl,(es.getD k (0,0)).2,m,rfl,N,I.hR,I.len,I.hm,fun H1 t1 s1 h1=>⟨t1,_,_,_,rfl,rfl,SqT.of h1,Zv (j:=0) (nl_get (Yc R.fb)),?_⟩⟩;have I1:=I.same s1;refine⟨_,rfl,_,rfl,p,n,qa,ts,es,(es.getD k (0,0)).1,rfl,I1.N,fun H2 t2 s2 h2=>?_⟩;have hal:(ats es (es.getD k (0,0)).1).length<=es.length:=ZaT _ _ _;have h200:=N.l200;refine⟨t2,_,rfl,SqT.of h2,(by rw[Zy];omega),fun i ys σ H'=>Same H2 H'/\ys=nl (Zcf tl (YX es tl k m) (ats es (es.getD k (0,0)).1) i)/\∃v0,σ=[v0,some (.int (YX es tl k m:Int)),some (.ref r)],⟨Same.refl _,rfl,none,rfl⟩,fun i ys σ H' hi⟨sH,e,_⟩=>⟨SqT.of (sH _ _ h2),by subst e;rw[Zy];exact Zh0 _ _ _ _⟩,fun i x ys σ H' hx xq1=>?_,fun ys σ H' xq1 l H3 s3 hl=>?_⟩
  ·obtain⟨sH,e1,v0,e⟩:=xq1
   subst e1 e;obtain⟨y,hy,rfl⟩:=ZaG hx;have hyl:=(ats_mem.mp (Qj hy)).1;have hgt:=Qb (show y<tl.length by rw[I.len];exact hyl);have egd:tl.getD y none=tl[y]'(by rw[I.len];exact hyl):=by rw[Qi,hgt];rfl
   generalize tl[y]'(by rw[I.len];exact hyl)=o at hgt egd;refine⟨_,rfl,_,rfl,r,_,_,_,rfl,rfl,SqT.of (sH _ _ (s2 _ _ I1.hR)),Zv (ZaB hgt),_,rfl,(by cases o<;>rfl),_,rfl,Z3 (fun hz=>?_) (fun hz=>?_)⟩
   ·refine⟨_,rfl,sH,?_,_,rfl⟩
    have:o=some (YX es tl k m):=by
     have hz':=Qr hz;cases o with
     |none=>cases hz'
     |some t=>have:=V.int.inj hz';rw[show t=YX es tl k m by omega]
    rw[ZiN hy (by rw[egd];exact this),<-nl_app]
   ·refine⟨sH,?_,_,rfl⟩
    rw[Zhz hy];intro z;rw[egd]at z;subst z;exact hz (Qu rfl)
  obtain⟨sH,e1,_⟩:=xq1;subst e1;have ega:Zcf tl (YX es tl k m) (ats es (es.getD k (0,0)).1) (nl (ats es (es.getD k (0,0)).1)).length=YS es tl (es.getD k (0,0)).1 (YX es tl k m):=by
   unfold Zcf YS;rw[Zy,UL]
  rw[ega]at hl;have s13:=Same.trans s1 (Same.trans s2 (Same.trans sH s3));have I3:=I.same s13;refine⟨l,_,_,_,rfl,rfl,SqL.of hl,Zv (j:=0) (nl_get (Yc R.gi)),_,rfl,_,rfl,_,rfl,p,n,qa,ts,es,gOf es tl k m,(es.getD k (0,0)).1,rfl,I3.N,R.gl,_,rfl,_,rfl,_,rfl,_,rfl,_,rfl,p,r,n,qa,ts,es,tl,(es.getD k (0,0)).1,cOf es tl k m,m,rfl,I3.N,I3.hR,I.len,I.hm,fun H4 t4 s4 h4=>?_⟩;have I4:=I3.same s4;have s14:=Same.trans s13 s4;by_cases hsh:0<(ZcM es tl k m).length
  ·refine⟨_,rfl,true,.inr (.inl ⟨_,SqT.of h4,?_⟩),Yi ?_⟩
   ·cases hz:both es tl (es.getD k (0,0)).1 (cOf es tl k m) m with
    |nil=>rw[show ZcM es tl k m=[]from hz]at hsh;cases hsh
    |cons _ _=>rfl
   ·have er:roomOf es tl k m=handed k (gOf es tl k m) (YX es tl k m) ((ZcM es tl k m).getD 0 0):=by unfold roomOf;rw[if_pos hsh]
    exact⟨_,rfl,_,rfl,_,rfl,_,rfl,t4,_,_,_,rfl,rfl,SqT.of h4,Zv (j:=0) (nl_get (Yc (l:=both es tl (es.getD k (0,0)).1 (cOf es tl k m) m) hsh)),k,gOf es tl k m,YX es tl k m,(ZcM es tl k m).getD 0 0,rfl,fun H5 l5 s5 n5 h5=>(q H5 l5 (Same.trans s14 s5) (s14.none n5) (by rw[er];exact h5))⟩
  ·refine⟨_,rfl,false,.inr (.inl ⟨_,SqT.of h4,?_⟩),ZA ?_⟩
   ·cases hz:both es tl (es.getD k (0,0)).1 (cOf es tl k m) m with
    |nil=>rfl
    |cons _ _=>exact absurd (by rw[show ZcM es tl k m=_ from hz];exact Vg _) hsh
   refine⟨_,rfl,_,rfl,_,rfl,_,rfl,p,r,n,qa,ts,es,tl,(es.getD k (0,0)).1,m,rfl,I4.N,I4.hR,I.len,I.hm,fun H5 t5 s5 h5=>⟨t5,_,_,_,rfl,rfl,SqT.of h5,Zv (j:=0) (nl_get (Yc R.fa)),?_⟩⟩;have I5:=I4.same s5;refine⟨_,rfl,_,rfl,_,rfl,_,rfl,_,rfl,p,r,n,qa,ts,es,tl,(es.getD k (0,0)).2,cOf es tl k m,m,rfl,I5.N,I5.hR,I.len,I.hm,fun H6 t6 s6 h6=>⟨t6,_,_,_,rfl,rfl,SqT.of h6,Zv (j:=0) (nl_get (Yc (R.bc hsh))),?_⟩⟩;have I6:=I5.same s6;have s16:=Same.trans s14 (Same.trans s5 s6);refine⟨_,rfl,_,rfl,_,rfl,_,rfl,_,rfl,_,rfl,p,r,n,qa,ts,es,tl,(es.getD k (0,0)).1,J8 es tl k m,Zaa es tl k m,rfl,I6.N,I6.hR,I.len,I.h64,fun H7 t7 S Es s7 h7 hS hRT hE hEx=>?_⟩;have s17:=Same.trans s16 s7;refine⟨t7,_,rfl,.inr (SqT.of h7),rfl,Zbj _,_,rfl,Z3 (fun hz=>?_) (fun hz=>?_)⟩
   ·have hno:¬Zid es tl (J8 es tl k m) (Zaa es tl k m) (es.getD k (0,0)).1 (es.getD k (0,0)).2:=fun⟨S',a1,a2,a3⟩=>by
     have eS:S'=S:=YF a1 hS fun x=>by rw[a2 x,hRT x]
     rw[eS]at a3;exact(Zhu _ _).mp hz ((hEx _).mpr a3)
    have er:roomOf es tl k m=[.turn (es.getD k (0,0)).1 (J8 es tl k m) (Zaa es tl k m),.tint k (Zaa es tl k m)]:=by unfold roomOf;rw[if_neg hsh,if_neg hno]
    refine⟨_,rfl,_,rfl,_,rfl,rfl,fun a1 G1 u1 g1=>⟨_,rfl,_,rfl,rfl,fun a2 G2 u2 g2=>⟨(by show 2<=sizeLine;decide),fun l5 hl5=>?_⟩⟩⟩;have s18:=Same.trans s17 (Same.trans u1 u2);refine q _ l5 (Same.trans s18 (Zh hl5)) (s18.none hl5) ?_;rw[er];refine⟨[(a1,_),(a2,_)],Zd,rfl,fun x hx=>?_⟩;simp[Qn,Qt,Q3]at hx;rcases hx with rfl|rfl
    ·exact Zh hl5 _ _ (u2 _ _ g1)
    ·exact Zh hl5 _ _ g2
   ·have hen:Zid es tl (J8 es tl k m) (Zaa es tl k m) (es.getD k (0,0)).1 (es.getD k (0,0)).2:=⟨S,hS,hRT,(hEx _).mp (Qv fun z=>hz ((Zhu _ _).mpr z))⟩
    have er:roomOf es tl k m= .turn (cOf es tl k m) (J8 es tl k m) (Zaa es tl k m)::handed k (gOf es tl k m) (YX es tl k m) (J8 es tl k m):=by unfold roomOf;rw[if_neg hsh,if_pos hen]
    refine⟨_,rfl,_,rfl,_,rfl,rfl,fun a1 G1 u1 g1=>⟨(by show 1<=sizeLine;decide),fun l4 hl4=>⟨_,rfl,_,rfl,_,rfl,_,rfl,k,gOf es tl k m,YX es tl k m,J8 es tl k m,rfl,fun H8 l8 s8 n8 xq1=>?_⟩⟩⟩;obtain⟨tr,h8a,h8b,h8c⟩:=xq1;have htl:tr.length=3:=by have:=UZ List.length h8b;rw[Qq]at this;exact this
    refine⟨l4,l8,_,_,rfl,rfl,s8 _ _ Zd,h8a,(by rw[Qq,htl];show 1+3<=sizeLine;decide),fun l9 hl9=>?_⟩;have s18:=Same.trans s17 (Same.trans u1 (Same.trans (Zh hl4) s8));refine q _ l9 (Same.trans s18 (Zh hl9)) (s18.none hl9) ?_;rw[er];refine⟨(a1,.turn (cOf es tl k m) (J8 es tl k m) (Zaa es tl k m))::tr,Zd,by rw[Vd,h8b],fun x hx=>?_⟩;rcases Qn.mp hx with rfl|hx
    ·exact Zh hl9 _ _ (s8 _ _ (Zh hl4 _ _ g1))
    ·exact Zh hl9 _ _ (h8c x hx)
end
section
variable{P:Program}{w:World}{K:PySem.W.Frag}{mg:Str->Option Value}{base:Heap}{cM:Addr}
abbrev ZjQ:Stmt:=inClass (top 31) 0
abbrev ZjT:Stmt:=inClass (top 31) 1
abbrev sAk:Stmt:=inClass (top 27) 1
def spNd3:Sp:=fun vs H Q _=>∃p m,vs=[.ref p,.int m]/\0<=m/\Q (.int (3*m/2)) H
theorem Zlz:Zm ["self","most"] ["self","most"] (Zg ZjQ):=⟨rfl,rfl,rfl,by decide+kernel,rfl,by decide+kernel,by decide+kernel⟩
theorem Zky(F:Fun K "needed" "Manifold.needed" ZjQ f fd):FnOk P w K mg base CX0 1 f fd ["self","most"] spNd3:=by
 refine F.ok Zlz (fun a H Q E h=>?_) (fun _ A _ s H a Q E _ h=>?_)
 ·obtain⟨p,m,rfl,_⟩:=h
  rfl
 ·obtain⟨p,m,rfl,_,q⟩:=h
  exact⟨_,Zf (Zn (Zt Yt (Zt Y9 Ze (pv 1)) Ze)),_,rfl,_,_,rfl,rfl,.inl ⟨by decide,by decide⟩,_,_,rfl,rfl,⟨by decide,by decide⟩,q⟩
def spAk:Sp:=fun vs H Q _=>∃p q,vs=[.ref p,.ref q]/\Q .non H
theorem Zn8:Zm ["self","net"] ["self","net"] (Zg sAk):=⟨rfl,rfl,rfl,by decide+kernel,rfl,by decide+kernel,by decide+kernel⟩
theorem Zjy(F:Fun K "asked" "Way.asked" sAk f fd):FnOk P w K mg base CX0 1 f fd ["self","net"] spAk:=by
 refine F.ok Zn8 (fun a H Q E h=>?_) (fun _ A _ s H a Q E _ h=>?_)
 ·obtain⟨p,m,rfl,_⟩:=h
  rfl
 ·obtain⟨p,m,rfl,q⟩:=h
  exact⟨_,Zf (Zn ZH),q⟩
inductive spMr3(vs:List V)(H:Hp)(Q:VK)(E:XK):Prop
 |mk (s us:_) (_:vs= .ref s::us) (_:us.length=4) (_:spRm us H Q E)
abbrev nMr:List Str:=["self","net","tints","tie","many"]
theorem Zl1:Zm nMr nMr (Zg ZjT):=⟨rfl,rfl,rfl,by decide+kernel,rfl,by decide+kernel,by decide+kernel⟩
theorem Zk2(F:Fun K "made_room" "Manifold.made_room" ZjT f fd)(FR:FnE P w K mg base "room_by_a_third" ["net","tints","tie","many"] 4 spRm):FnOk P w K mg base CX0 5 f fd nMr spMr3:=by
 refine F.ok Zl1 (fun e H Q E h=>?_) (fun _ A _ s H e Q E i h=>?_)
 ·obtain⟨s,l,rfl,d,_⟩:=h
  simp_all
 ·obtain⟨s,l,rfl,d,p,r,n,c,b,a,g,k,m,rfl,I,j,q⟩:=h
  exact⟨_,Zf (Zn (Zs FR i (Zc (pv 1) (Zc (pv 2) (Zc (pv 3) (Zc (pv 4) Za)))))),_,rfl,_,rfl,_,rfl,_,rfl,p,r,n,c,b,a,g,k,m,rfl,I,j,q⟩
end
def YK(es:List (Nat×Nat)):Prop:=∀i j,i<es.length->j<es.length->i≠j->∀x,At (es.getD i (0,0)) x->At (es.getD j (0,0)) x->oth (es.getD i (0,0)) x≠oth (es.getD j (0,0)) x
abbrev tip(es:List (Nat×Nat))(hub j:Nat):Nat:=oth (es.getD j (0,0)) hub
def hnd(tl:List (Option Nat))(last:Nat):List Nat->List Stp
 |[]=>[]
 |[j]=>[.tint j last]
 |j::j'::r=> .bare j':: .tint j ((tl.getD j' none).getD 0)::hnd tl last (j'::r)
theorem Zbh(tl)(last):∀F:List _,(hnd tl last F).length<=2*F.length
 |[]=>Qe _
 |[j]=>by show 1<=2;simp
 |j::a::r=>by
  have:=Zbh tl last (a::r);show(hnd tl _ _).length+1+1<=2*(r.length+1+1)
  grind
theorem Zc8(hC:CleanTo es tl es.length)(hi:i<es.length)(hj:j<es.length)(h1:tl[i]?=some (some t))(h2:tl[j]?=some (some t))(a1:At (es.getD i (0,0)) x)(a2:At (es.getD j (0,0)) x):i=j:=by
 rcases UG i j with z|z|z
 ·exact absurd a1 (hC j i t z hj h2 h1 x a2)
 ·exact z
 ·exact absurd a2 (hC i j t z hi h1 h2 x a1)
theorem Zei{n hub j}(ok:∀e∈es,e.1<n/\e.2<n/\e.1≠e.2) (hj:j<es.length) (ha:At (es.getD j (0,0)) hub):tip es hub j≠hub:=by
 unfold tip oth
 grind
theorem Zej{n hub j}(ok:∀e∈es,e.1<n/\e.2<n/\e.1≠e.2) (hj:j<es.length):tip es hub j<n:=by
 have:=ok _ (getD_mem hj);rcases ZcU (es.getD j (0,0)) hub with e|e<;>(unfold tip;omega)
theorem Zc7{hub j t}(ha:At (es.getD j (0,0)) hub)(h1:¬Used es tl es.length hub t)(h2:¬Used es tl es.length (tip es hub j) t):¬Used es tl es.length (es.getD j (0,0)).1 t/\¬Used es tl es.length (es.getD j (0,0)).2 t:=by
 constructor
 ·rcases Zar ha (.inl rfl)with e|e
  ·rw[e];exact h1
  ·rw[e];exact h2
 ·rcases Zar ha (.inr rfl)with e|e
  ·rw[e];exact h1
  ·rw[e];exact h2
theorem Zbq{k x t t'}(h:Used es (tl.set k (some t')) es.length x t):(t=t'/\At (es.getD k (0,0)) x)\/Used es tl es.length x t:=by
 obtain⟨j,a,b,c⟩:=h;rw[Qy]at b;by_cases e:k=j
 ·simp_all
 ·rw[if_neg e]at b
  exact .inr ⟨j,a,b,c⟩
theorem Zdf{n m hub last}(ok:∀e∈es,e.1<n/\e.2<n/\e.1≠e.2) (pl:YK es) (hm:last<m):∀(r)(j)(cur),cur.length=es.length->CleanTo es cur es.length->cur[j]?=some none->(j::r).Nodup->
  (∀i∈j::r,i<es.length/\At (es.getD i (0,0)) hub)->(∀i∈r,cur[i]?=tl[i]?)->(∀i a b,(j::r)[i]?=some a->(j::r)[i+1]?=some b->∃t,t<m/\cur[b]?=some (some t)/\¬Used es cur es.length (tip es hub a) t)->
  (∀a,(j::r)[r.length]?=some a->¬Used es cur es.length (tip es hub a) last)->¬Used es cur es.length hub last->
  ∃res,Wk es n m (hnd tl last (j::r)) cur res/\res.length=es.length/\CleanTo es res es.length/\(∀i,i ∉ j::r->res[i]?=cur[i]?)/\∀i∈j::r,∃t,res[i]?=some (some t)
 |[],j,cur,hl,hC,hb,nd,f,hc,hs,hla,hh=>by
  obtain⟨hj,ha⟩:=f j (.head _);obtain⟨n1,n2⟩:=Zc7 ha hh (hla j rfl);have c1:=Ya hC hl hj n1 n2;refine⟨cur.set j (some last),.cons (s:= .tint j last) ⟨hj,hm⟩ rfl c1 .nil,by rw[QT];exact hl,c1,fun i hi=>?_,fun i hi=>?_⟩
  ·rw[Qy,if_neg fun z:j=i=>hi (z▸Uq)]
  ·rw[Qf.mp hi,Qy,if_pos rfl,if_pos (by omega)]
   exact⟨_,rfl⟩
 |c::r,j,cur,hl,hC,hb,nd,f,hc,hs,hla,hh=>by
  obtain⟨hj,ha⟩:=f j (.head _);obtain⟨hj',ha'⟩:=f c (.tail _ (.head _));obtain⟨nj,nd'⟩:=QN.mp nd;obtain⟨nj',_⟩:=QN.mp nd';obtain⟨t,tm,ct,ft⟩:=hs 0 j c rfl rfl;have c1:CleanTo es (cur.set c none) es.length:=ZbV hC;have l1:(cur.set c none).length=es.length:=by rw[QT];exact hl
  have nh:¬Used es (cur.set c none) es.length hub t:=fun z=>by
   obtain⟨_,i,ine,il,it,ia⟩:=Yw z;exact ine (Zc8 hC il hj' it ct ia ha')
  obtain⟨n1,n2⟩:=Zc7 ha nh (show¬Used es (cur.set c none) es.length (tip es hub j) t from fun z=>ft (Yw z).1);have c2:=Ya c1 l1 hj n1 n2;have ev:(tl.getD c none).getD 0=t:=by
   rw[Qi,<-hc c (.head _),ct];rfl
  have g2:∀i,i≠j->i≠c->((cur.set c none).set j (some t))[i]?=cur[i]?:=fun i h1 h2=>by
   rw[Qy,if_neg fun z=>h1 z.symm,Qy,if_neg fun z=>h2 z.symm]
  have off:∀a∈c::r,∀t',¬Used es cur es.length (tip es hub a) t'->¬Used es ((cur.set c none).set j (some t)) es.length (tip es hub a) t':=fun a hin t' hf z=>by
   obtain⟨hal,haa⟩:=f a (.tail _ hin);rcases Zbq z with⟨_,hx⟩|z
   ·rcases Zar ha hx with e|e
    ·exact Zei ok hal haa e
    ·exact pl a j hal hj (show a≠j from fun z=>nj (z▸hin)) hub haa ha e
   ·exact hf (Yw z).1
  obtain⟨res,w1,w2,w3,w4,w5⟩:=Zdf (tl:=tl) ok pl hm r c ((cur.set c none).set j (some t)) (show((cur.set c none).set j (some t)).length=es.length by rw[QT];exact l1) c2
   (by rw[Qy,if_neg (show j≠c from fun z=>nj (z▸Uq)),Qy,if_pos rfl,if_pos (by omega)]) nd' (fun i hi=>f i (.tail _ hi))
   (fun i hi=>by rw[g2 i (fun z=>nj (z▸.tail _ hi)) (fun z=>nj' (z▸hi))];exact hc i (.tail _ hi))
   (fun i a b h1 h2=>by
    obtain⟨t',q1,q2,q3⟩:=hs (i+1) a b h1 h2;have hb':b∈r:=Qj h2;exact⟨t',q1,by rw[g2 b (fun z=>nj (z▸.tail _ hb')) (fun z=>nj' (z▸hb'))];exact q2,off a (Qj h1) t' q3⟩)
   (fun a h1=>off a (Qj h1) last (hla a h1))
   (fun z=>by
    rcases Zbq z with⟨e,_⟩|z
    ·exact hh ⟨c,hj',by rw[e];exact ct,ha'⟩
    ·exact hh (Yw z).1)
  refine⟨res,?_,w2,w3,fun i hi=>?_,fun i hi=>?_⟩
  ·show Wk es n m (.bare c:: .tint j ((tl.getD c none).getD 0)::hnd tl last (c::r)) cur res
   rw[ev];exact .cons (s:= .bare c) hj' rfl c1 (.cons (s:= .tint j t) ⟨hj,tm⟩ rfl c2 w1)
  ·simp_all
  ·rcases Qn.mp hi with rfl|z
   ·rw[w4 _ nj,Qy,if_pos rfl,if_pos (by omega)]
    exact⟨_,rfl⟩
   ·exact w5 i z
structure FanOk(es:List (Nat×Nat))(tl:List (Option Nat))(hub k m:Nat)(F:List Nat):Prop where
 hd:F[0]?=some k
 nd:F.Nodup
 at':∀j∈F,j<es.length/\At (es.getD j (0,0)) hub
 seq:∀i a b,F[i]?=some a->F[i+1]?=some b->∃t,t<m/\tl[b]?=some (some t)/\¬Used es tl es.length (tip es hub a) t
def lst(F:List Nat):Nat:=F.getD (F.length-1) 0
theorem Jo(h:0<F.length):F[F.length-1]?=some (lst F):=by
 unfold lst;rw[Qi,Qb (by omega)];rfl
section
variable{es:List (Nat×Nat)}{tl:List (Option Nat)}{hub k m n:Nat}{F:List Nat}
theorem FanOk.pos(h:FanOk es tl hub k m F):0<F.length:=by
 have:=h.hd
 grind
theorem FanOk.lst_in(h:FanOk es tl hub k m F):lst F∈F:=Qj (Jo h.pos)
theorem FanOk.start(hk:k<es.length)(ha:At (es.getD k (0,0)) hub):FanOk es tl hub k m [k]:=
 ⟨rfl,QN.mpr ⟨Qt,Q4⟩,fun j _=>by simp_all,fun i a b _ _=>by trivial⟩
theorem FanOk.add(h:FanOk es tl hub k m F){x t}(hx:x<es.length)(ha:At (es.getD x (0,0)) hub)(ht:tl[x]?=some (some t))(tm:t<m)(hf:¬Used es tl es.length (tip es hub (lst F)) t)(hn:x ∉ F):FanOk es tl hub k m (F++[x]):=by
 have g:=h.pos;refine⟨by rw[QJ g];exact h.hd,?_,fun j l=>?_,fun i a b d c=>?_⟩
 ·rw[Ud]
  refine⟨h.nd,QN.mpr ⟨Qt,Q4⟩,fun a ha b o z=>?_⟩;rw[Qf.mp o]at z;exact hn (z▸ha)
 ·rcases Qw.mp l with z|z
  ·exact h.at' j z
  ·simp_all
 ·by_cases n:i+1<F.length
  ·rw[QJ n]at c
   rw[QJ (by omega)]at d;exact h.seq i a b d c
  ·have f:i+1=F.length:=by
    have:=(Qd.mp c).1;rw[Qk,QF]at this;omega
   rw[f,Q0 (Qe _),Vh]at c;cases c;rw[QJ (by omega)]at d;have e:=Jo g;rw[show F.length-1=i by omega,d]at e;cases e;exact⟨t,tm,ht,hf⟩
theorem FanOk.tips(h:FanOk es tl hub k m F)(pl:YK es)(ok:∀e∈es,e.1<n/\e.2<n/\e.1≠e.2):F.length<=n:=by
 have i:(F.map (tip es hub)).Nodup:=by
  rw[List.nodup_iff_pairwise_ne,Ul];exact Uz (fun{a b} d f c=>(pl a b (h.at' a d).1 (h.at' b f).1 c _ (h.at' a d).2 (h.at' b f).2)) (List.nodup_iff_pairwise_ne.mp h.nd)
 have:=sub_len i fun x l=>by
  obtain⟨j,g,rfl⟩:=QQ.mp l;exact QC.mpr (Zej ok (h.at' j g).1)
 simp_all
end
noncomputable def onw(es:List (Nat×Nat))(tl:List (Option Nat))(hub m:Nat)(F:List Nat):List Nat:=
 (ats es hub).filter fun x=>(match tl.getD x none with|none=>false|some t=>decide (t∈frees es tl (tip es hub (lst F)) m))&&decide (x ∉ F)
theorem Zfe{F}(hl:tl.length=es.length):x∈onw es tl hub m F↔x<es.length/\At (es.getD x (0,0)) hub/\(∃t,tl[x]?=some (some t)/\t<m/\¬Used es tl es.length (tip es hub (lst F)) t)/\x ∉ F:=by
 unfold onw;rw[Q8,ats_mem,Ux,decide_eq_true_eq];constructor
 ·rintro⟨⟨d,b⟩,a,c⟩
  refine⟨d,b,?_,c⟩;have e:=Qb (show x<tl.length by omega);rw[Qi,e]at a;rw[e];cases q:tl[x]'(by omega)with
  |none=>simp_all
  |some t=>
   rw[q]at a;have:=frees_mem.mp (Qr a)
   simp_all
 ·rintro⟨d,b,⟨t,a,c⟩,f⟩
  refine⟨⟨d,b⟩,?_,f⟩;rw[Qi,a];exact Qu (frees_mem.mpr c)
noncomputable def Ju(es:List (Nat×Nat))(tl:List (Option Nat))(hub m:Nat):Nat->List Nat->List Nat
 |0,F=>F
 |d+1,F=>if 0<(both es tl hub (tip es hub (lst F)) m).length then F else match onw es tl hub m F with
  |[]=>F
  |x::_=>Ju es tl hub m d (F++[x])
section
variable{es:List (Nat×Nat)}{tl:List (Option Nat)}{hub k m n:Nat}{F:List Nat}
theorem FanOk.le(h:FanOk es tl hub k m F):F.length<=es.length:=by
 have:=sub_len h.nd fun x a=>QC.mpr (h.at' x a).1
 simp_all
theorem FanOk.next(h:FanOk es tl hub k m F)(hl:tl.length=es.length){x}{r}(e:onw es tl hub m F=x::r):FanOk es tl hub k m (F++[x]):=by
 obtain⟨g,f,⟨t,b,d,a⟩,c⟩:=(Zfe hl).mp (by rw[e];exact Uq);exact h.add g f b d a c
theorem ZeA(hl:tl.length=es.length):∀(d)(F),FanOk es tl hub k m F->es.length<=F.length+d->FanOk es tl hub k m (Ju es tl hub m d F)/\(0<(both es tl hub (tip es hub (lst (Ju es tl hub m d F))) m).length\/onw es tl hub m (Ju es tl hub m d F)=[])
 |0,F,h,a=>by
  refine⟨h,.inr ?_⟩;cases q:onw es tl _ m F with
  |nil=>exact q
  |_ x r=>
   have:=(h.next hl q).le
   grind
 |d+1,F,h,a=>by
  unfold Ju;split
  ·simp_all
  ·split
   ·simp_all
   ·rename_i x r q
    refine ZeA hl d _ (h.next hl q) ?_;rw[Qk,QF];omega
end
noncomputable def chS(es:List (Nat×Nat))(tl:List (Option Nat))(u v p:Nat):List Nat:=(List.range es.length).filter fun k=>@decide (RT es tl u v p k) (Classical.propDecidable _)
theorem ZdT(es:List (Nat×Nat))(tl:List (Option Nat))(u v p):(chS es tl u v p).Pairwise (·<·):=List.Pairwise.filter _ List.pairwise_lt_range
theorem Zf5:k∈chS es tl u v p↔RT es tl u v p k:=by
 unfold chS;rw[Q8,QC];exact⟨fun z=>@Qr _ (Classical.propDecidable _) z.2,fun z=>⟨z.1,@Qu _ (Classical.propDecidable _) z⟩⟩
theorem ZkU{es:List (Nat×Nat)}{tl:List (Option Nat)}{u v p}{S:List _}(h:S.Pairwise (·<·))(hR:∀k,k∈S↔RT es tl u v p k):S=chS es tl u v p:=YF h (ZdT _ _ _ _ _) fun x=>by rw[hR x,Zf5]
def plc(tl:List (Option Nat))(F:List Nat)(t:Nat):Nat:=(F.findIdx? fun x=>decide (tl.getD x none=some t)).getD 0
noncomputable def oneOf(es:List (Nat×Nat))(tl:List (Option Nat))(hub m:Nat):Nat:=(frees es tl hub m).getD 0 0
noncomputable def ZL(es:List (Nat×Nat))(tl:List (Option Nat))(hub m:Nat)(F:List Nat):Nat:=(frees es tl (tip es hub (lst F)) m).getD 0 0
noncomputable def ZaS(es:List (Nat×Nat))(tl:List (Option Nat))(hub m:Nat)(F:List Nat):List (Option Nat):=trn tl (oneOf es tl hub m) (ZL es tl hub m F) (chS es tl (oneOf es tl hub m) (ZL es tl hub m F) hub)
noncomputable def JS(es:List (Nat×Nat))(tl:List (Option Nat))(hub m:Nat)(F:List Nat):List Nat:=
 if ZL es tl hub m F∈frees es (ZaS es tl hub m F) (tip es hub (F.getD (plc tl F (ZL es tl hub m F)-1) 0)) m then F.take (plc tl F (ZL es tl hub m F))else F
noncomputable def Zbt(es:List (Nat×Nat))(tl:List (Option Nat))(hub m:Nat)(F:List Nat):List Stp:=
 .turn hub (oneOf es tl hub m) (ZL es tl hub m F)::hnd (ZaS es tl hub m F) (ZL es tl hub m F) (JS es tl hub m F)
noncomputable def YA(es:List (Nat×Nat))(tl:List (Option Nat))(k m:Nat):List Nat:=Ju es tl (es.getD k (0,0)).1 m es.length [k]
noncomputable def roomF(es:List (Nat×Nat))(tl:List (Option Nat))(k m:Nat):List Stp:=
 if 0<(both es tl (es.getD k (0,0)).1 (tip es (es.getD k (0,0)).1 (lst (YA es tl k m))) m).length then hnd tl ((both es tl (es.getD k (0,0)).1 (tip es (es.getD k (0,0)).1 (lst (YA es tl k m))) m).getD 0 0) (YA es tl k m)
 else Zbt es tl (es.getD k (0,0)).1 m (YA es tl k m)
structure Zic(es:List (Nat×Nat))(tl:List (Option Nat))(k m n:Nat)(sl:List Stp):Prop where
 ex:∃tE,Wk es n m sl tl tE/\tE.length=es.length/\CleanTo es tE es.length/\(∃t,tE[k]?=some (some t))/\(∀j,j≠k->(tE[j]?=some none↔tl[j]?=some none))/\∃l:List Nat,l.length<=2*n/\∀j,j≠k->tl[j]?≠tE[j]?->j∈l
 few:sl.length<=2*n+1
section
variable{es:List (Nat×Nat)}{tl:List (Option Nat)}{hub k m n M:Nat}{F:List Nat}
theorem FanOk.cons(h:FanOk es tl hub k m F):∃r,F=k::r:=by
 have:=h.hd;cases F with
 |nil=>cases this
 |_ x r=>simp_all
theorem FanOk.full(h:FanOk es tl hub k m F){x}(hx:x∈F)(hn:x≠k):∃t,t<m/\tl[x]?=some (some t):=by
 obtain⟨i,c⟩:=List.mem_iff_getElem?.mp hx;cases i with
 |zero=>rw[h.hd]at c;simp_all
 |_ i=>
  have _:=(Qd.mp c).1;obtain⟨t,a,b,_⟩:=h.seq i _ x (Qb (by omega)) c;exact⟨t,a,b⟩
theorem ZfJ(ok:∀e∈es,e.1<n/\e.2<n/\e.1≠e.2) (pl:YK es) (hC:CleanTo es tl es.length) (hl:tl.length=es.length) (hb:tl[k]?=some none) (h:FanOk es tl hub k m F) {t} (tm:t<m) (h1:¬Used es tl es.length hub t) (h2:¬Used es tl es.length (tip es hub (lst F)) t):Zic es tl k m n (hnd tl t F):=by
 obtain⟨r,f⟩:=h.cons;have hnd:=h.nd;have hle:=h.tips pl ok;have d:=Jo h.pos;rw[f]at hnd d;obtain⟨res,w1,w2,w3,w4,g⟩:=Zdf ok pl tm r k tl hl hC hb hnd (fun i hi=>h.at' i (by rw[f];exact hi)) (fun _ _=>rfl) (fun i a b a1 a2=>h.seq i a b (by rw[f];exact a1) (by rw[f];exact a2))
  (fun a ha=>by
   simp_all) h1
 rw[<-f]at w1 w4 g;refine⟨⟨res,w1,w2,w3,g k (by simp_all),fun j hj=>?_,F,by omega,fun j hj z=>?_⟩,?_⟩
 ·by_cases c:j∈F
  ·obtain⟨t1,e1⟩:=g j c
   obtain⟨t2,_,e2⟩:=h.full c hj;rw[e1,e2];exact⟨fun z=>(by grind),fun z=>(by grind)⟩
  ·rw[w4 j c]
 ·exact Qv fun c=>z (w4 j c).symm
 ·have:=Zbh tl t F
  omega
theorem ZjY{S}{t}(hR:∀k,k∈S↔RT es tl u v p k) (h:Used es (trn tl u v S) es.length x t) (hn:¬Used es tl es.length x t):RP es tl u v p x:=
 Qv fun z=>hn ((Jx hR z).mp h)
theorem ZgQ(h:∃x∈F,tl[x]?=some (some t)):∃x,F[plc tl F t]?=some x/\tl[x]?=some (some t):=by
 have c:∀x,decide (tl.getD x none=some t)=_↔tl[x]?=some (some t):=fun x=>by
  rw[decide_eq_true_eq,Qi];cases q:tl[x]? with
  |none=>simp_all
  |some o=>simp_all
 unfold plc;cases q:F.findIdx? fun x=>decide (tl.getD x none=some t)with
 |none=>
  grind
 |some i=>
  obtain⟨d,e,_⟩:=List.findIdx?_eq_some_iff_getElem.mp q;exact⟨_,Qb d,(c _).mp e⟩
theorem ZeP(ok:∀e∈es,e.1<n/\e.2<n/\e.1≠e.2) (pl:YK es) (hC:CleanTo es tl es.length) (hl:tl.length=es.length) (hb:tl[k]?=some none) (hM:∀x,x<n->dg es es.length x<=M) (hm:M<m) (hn:hub<n) (h:FanOk es tl hub k m F)
  (hno:¬0<(both es tl hub (tip es hub (lst F)) m).length) (hon:onw es tl hub m F=[]):Zic es tl k m n (Zbt es tl hub m F)/\∃x,F[plc tl F (ZL es tl hub m F)]?=some x/\tl[x]?=some (some (ZL es tl hub m F))/\0<plc tl F (ZL es tl hub m F):=by
 have O:∀x,x<n->0<(frees es tl x m).length:=fun x Y=>by
  have h1:=YY es tl x m;have U:=ZhR es tl x;have h3:=hM x Y;omega
 obtain⟨a4,b8⟩:=h.at' _ h.lst_in;have f:=frees_mem.mp (head_mem (O hub hn));have c:=frees_mem.mp (head_mem (O _ (Zej (hub:=hub) ok a4)));have e1:(frees es tl _ m).getD 0 0=oneOf es tl hub m:=rfl;have e2:(frees es tl _ m).getD 0 0=ZL es tl hub m F:=rfl;rw[e1]at f;rw[e2]at c;unfold Zbt JS ZaS;generalize oneOf es tl _ m=u at*;generalize ZL es tl _ m F=v at*;have T:=Qv fun z=>hno (QZ (both_mem.mpr ⟨c.1,z,c.2⟩));have p:u≠v:=fun z=>f.2 (by rw[z];exact T);obtain⟨x0,x1,x2,x3⟩:=T;have x0F:=Qv fun z=>by
  have:=(Zfe (hub:=hub) (m:=m) (F:=F) hl).mpr ⟨x1,x3,⟨v,x2,c⟩,z⟩;rw[hon]at this;cases this
 obtain⟨xs,K,P⟩:=ZgQ (tl:=tl) (F:=F) (t:=v) ⟨x0,x0F,x2⟩;obtain⟨b7,b3⟩:=h.at' xs (Qj K);generalize hpl:plc tl F v=o at*;have pc0:0<o:=by
  rcases Nat.eq_zero_or_pos o with z|z
  ·rw[z,h.hd]at K
   cases K
   rw[hb]at P;cases Option.some.inj P
  ·exact z
 refine⟨?_,xs,K,P,pc0⟩;have C:∀j,j∈chS es tl u v hub↔RT es tl u v hub j:=fun j=>Zf5;have hS:=ZdT es tl u v hub;generalize chS es tl u v hub=S at*;have hI:=fun j hj=>((C j).mp hj).2.1;have a5:RT es tl u v hub xs:=⟨b7,.inr P,hub,.start,b3⟩;have c1:=JF p C hC;have l1:(trn tl u v S).length=es.length:=by rw[Je];exact hl
 have b1:=(Ja hI).mpr hb;have L:=fun z=>by
  have:=(YT p C (x:=hub) .start (t:=v) (.inr rfl)).mp z;unfold swt at this;rw[if_neg (Ne.symm p)]at this;exact f.2 this
 have pcl:=(Qd.mp K).1;have N:∀i a b,F[i]?=some a->F[i+1]?=some b->i+1≠o->∃t,t<m/\(trn tl u v S)[b]?=some (some t)/\¬Used es (trn tl u v S) es.length (tip es hub a) t:=fun i a b h1 U X=>by
  obtain⟨t,tm,tb,tf⟩:=h.seq i a b h1 U;obtain⟨bl,ba⟩:=h.at' b (Qj U);have tu:t≠u:=fun z=>f.2 ⟨b,bl,by rw[<-z];exact tb,ba⟩;have tv:t≠v:=fun z=>by
   have eb:=Zc8 hC bl b7 (by rw[<-z];exact tb) P ba b3;rw[eb]at U;have hi1:=(Qd.mp U).1;exact X ((List.getElem?_inj hi1 h.nd).mp (U.trans K.symm))
  exact⟨t,tm,(JB p hI tu tv).mpr tb,fun z=>tf ((Zco p hI tu tv).mp z)⟩
 obtain⟨r,V⟩:=h.cons;have hle:=h.tips pl ok;have hSl:=ZaP ok hC hS C;obtain⟨Z,A⟩:∃a,F[o-1]?=some a:=⟨_,Qb (by omega)⟩;have a6:=Qj A;obtain⟨b5,a8⟩:=h.at' Z a6;have c3:F.getD (o-1) 0=Z:=by rw[Qi,A];rfl
 rw[c3];have b9:∀G:List Nat,(∀x∈G,x∈F)->G.length<=F.length->(∃g,G=k::g)->(∃w,Wk es n m (hnd (trn tl u v S) v G) (trn tl u v S) w/\w.length=es.length/\CleanTo es w es.length/\(∀i,i ∉ G->w[i]?=(trn tl u v S)[i]?)/\∀i∈G,∃t,w[i]?=some (some t))->
   Zic es tl k m n (.turn hub u v::hnd (trn tl u v S) v G):=fun G hG hGl⟨g,eg⟩⟨w,w1,w2,w3,w4,w5⟩=>by
  refine⟨⟨w,.cons (s:= .turn hub u v) ⟨hn,f.1,c.1,p⟩ ⟨S,hS,C,rfl⟩ c1 w1,w2,w3,w5 k (by rw[eg];exact Uq),fun j hj=>?_,F++S,by rw[Qk];omega,fun j hj z=>?_⟩,?_⟩
  ·by_cases B:j∈G
   ·obtain⟨t1,e1⟩:=w5 j B
    obtain⟨t2,_,e2⟩:=h.full (hG j B) hj;rw[e1,e2];exact⟨fun z=>(by cases Option.some.inj z),fun z=>(by cases Option.some.inj z)⟩
   ·rw[w4 j B,Ja hI]
  ·by_cases B:j∈G
   ·exact Qz _ (hG j B)
   ·rw[w4 j B]at z
    exact Qm _ (Qv fun y=>z (Yk y).symm)
  ·have:=Zbh (trn tl u v S) v G
   rw[QL];omega
 split
 ·rename_i q
  have hfr:=(frees_mem.mp q).2;have eG:F.take o=k::r.take (o-1):=by
   rw[V,show o=(o-1)+1 by omega,List.take_succ_cons];rfl
  have D:(F.take o).length=o:=by rw[UC];omega
  have gt:∀i,i<o->(F.take o)[i]?=F[i]?:=fun i H=>List.getElem?_take_of_lt H;refine b9 (F.take o) (fun x Y=>List.mem_of_mem_take Y) (by omega) ⟨_,eG⟩ ?_;have a9:(F.take o).Nodup:=h.nd.sublist (List.take_sublist _ _);rw[eG]at a9 D gt⊢;have lr:(r.take (o-1)).length=o-1:=by rw[QL]at D;omega
  refine Zdf (tl:=trn tl u v S) (m:=m) ok pl c.1 _ k (trn tl u v S) l1 c1 b1 a9 (fun i H=>h.at' i (List.mem_of_mem_take (by rw[eG];exact H))) (fun _ _=>rfl) (fun i a b W R=>?_) (fun a ha=>?_) L
  ·have H:i+1<o:=by rw[<-D];exact(Qd.mp R).1
   rw[gt _ H]at R;rw[gt _ (by omega)]at W;exact N i a b W R (by omega)
  ·rw[lr,gt _ (by omega),A]at ha
   cases ha
   exact hfr
 ·rename_i q
  have b6:Used es (trn tl u v S) es.length (tip es hub Z) v:=Qv fun z=>q (frees_mem.mpr ⟨c.1,z⟩);obtain⟨t0,_,b2,a3⟩:=h.seq (o-1) Z xs A (by rw[show o-1+1=o by omega];exact K);rw[P]at b2;cases Option.some.inj (Option.some.inj b2);have Q:RP es tl u v hub (tip es hub Z):=ZjY C b6 a3;have on:∀x,RP es tl u v hub x->(¬Used es tl es.length x u\/¬Used es tl es.length x v)->deg es S x=1:=fun x Y hf=>by
   obtain⟨j,h1,U⟩:=Zeq Y ⟨xs,a5⟩;have h3:=Za1 ((C j).mpr h1) U;have h4:=Zbl hS C ok hC hf;omega
  refine b9 F (fun x Y=>Y) (Qe _) ⟨r,V⟩ ?_;have hnd:=h.nd;have E:=Jo h.pos;rw[V]at hnd E;have a0:=Zdf (tl:=trn tl u v S) (m:=m) (n:=n) (hub:=hub) ok pl c.1 r k (trn tl u v S) l1 c1 b1 hnd (fun i H=>h.at' i (by rw[V];exact H)) (fun _ _=>rfl) (fun i a b W R=>?_) (fun a ha=>?_) L
  ·rw[<-V]at a0
   exact a0
  ·rw[<-V]at W R
   by_cases H:i+1=o
   ·rw[H,K]at R
    cases R
    rw[show i=o-1 by omega,A]at W;cases W;refine⟨u,f.1,?_,fun z=>?_⟩
    ·rw[Jy ((C xs).mpr a5) (.inr P),Zcq p P]
    ·have:=(YT p C Q (t:=u) (.inl rfl)).mp z
     unfold swt at this;rw[if_pos rfl]at this;exact a3 this
   ·exact N i a b W R H
  ·rw[show(k::r).length-1=r.length from rfl,ha]at E
   cases E
   rw[<-V];intro z;by_cases c2:RP es tl u v hub (tip es hub (lst F))
   ·have X:Z≠lst F:=fun y=>by
     have b0:=Jo h.pos;rw[<-y]at b0;have:=(List.getElem?_inj (by omega) h.nd).mp (A.trans b0.symm);omega
    exact Zbu ok hn hC hS C (on hub .start (.inl f.2)) (on _ Q (.inr a3)) (on _ c2 (.inr c.2)) (Ne.symm (Zei ok b5 a8)) (Ne.symm (Zei ok a4 b8)) (pl Z (lst F) b5 a4 X hub a8 b8)
   ·exact c.2 ((Jx C c2).mp z)
theorem Ziu(ok:∀e∈es,e.1<n/\e.2<n/\e.1≠e.2) (pl:YK es) (hC:CleanTo es tl es.length) (hl:tl.length=es.length) (hk:k<es.length) (hb:tl[k]?=some none) (hM:∀x,x<n->dg es es.length x<=M) (hm:M<m):Zic es tl k m n (roomF es tl k m):=by
 obtain⟨c,b⟩:=ZeA hl es.length _ (FanOk.start hk (.inl rfl)) (by simp);unfold roomF YA;split
 ·rename_i a
  obtain⟨f,d,g⟩:=both_mem.mp (head_mem a);exact ZfJ ok pl hC hl hb c f d g
 ·rename_i a
  exact(ZeP ok pl hC hl hb hM hm (ok _ (getD_mem hk)).1 c a (b.resolve_left a)).1
end
end My

namespace L2
open PySem PySem.Spec PyProof.Rows
theorem Zkp{K}(hK:X.K=K):OpR X (compareOp .In) (rIn K false):=by
 subst hK;exact JJ
theorem ZfT{K}(hK:X.K=K):OpR X (compareOp .NotIn) (rIn K true):=by
 subst hK;exact Zat
end L2
namespace My
open PySem L2
theorem Zga(h:0<F.length):F=F.take (F.length-1)++[lst F]:=by
 have e:=Jo h;have:=List.take_append_drop (F.length-1) F;rw[Um (by omega)]at this;rw[Qb (by omega)]at e;rw[Option.some.inj e,show F.length-1+1=F.length by omega,List.drop_length]at this;exact this.symm
theorem Za5(h:0<F.length):atI (nl F) (-1)=some (.int (lst F)):=by
 have e:=Zga h;have a:nl (F.take (F.length-1)++[lst F])=nl (F.take (F.length-1))++[.int (lst F)]:=by unfold nl;simp
 rw[<-e]at*;rw[a];exact Za6 _ _
theorem Zm4(o:Option _)(l:List _):inV (tN o) (nl l)=(match o with|none=>false|some t=>decide (t∈l)):=by
 cases o with
 |none=>
  unfold inV nl;rw[List.any_map,List.any_eq_false];exact fun x _=>fun z=>by cases z
 |some t=>
  show inV _ _=decide _;by_cases h:t∈l
  ·rw[Qu h]
   exact(ZbK t l).mpr h
  ·rw[QX h]
   exact U3.mpr fun z=>h ((ZbK t l).mp z)
noncomputable def onB(es:List (Nat×Nat))(tl:List (Option Nat))(hub m:Nat)(F:List Nat)(x:Nat):Bool:=(match tl.getD x none with|none=>false|some t=>decide (t∈frees es tl (tip es hub (lst F)) m))&&decide (x ∉ F)
noncomputable def Ze1(es:List (Nat×Nat))(tl:List (Option Nat))(hub m:Nat)(F:List Nat)(i:Nat):List Nat:=((ats es hub).take i).filter (onB es tl hub m F)
theorem ZfU{hub m x i}{F}(hx:(ats es hub)[i]?=some x):Ze1 es tl hub m F (i+1)=Ze1 es tl hub m F i++if onB es tl hub m F x=true then[x]else[]:=by
 unfold Ze1;rw[List.take_succ,hx];show List.filter _ ((ats es hub).take i++[x])=_;rw[Uv,Ub];rfl
theorem Zhc(es)(tl)(hub m)(F)(i):(Ze1 es tl hub m F i).length<=i:=by
 refine QM (Uy _ _) ?_
 grind
structure FIn(H:Hp)(p r:Addr)(n:Nat)(q:Addr)(ts:List V)(es:List (Nat×Nat))(tl:List (Option Nat))(m:Nat):Prop where
 N:NetZ H p n q ts es
 hR:H r=some (.tup (tv tl))
 len:tl.length=es.length
 hm:m<=1000
theorem FIn.same{p r}{n}{q}{ts}{es:List _}{tl:List _}{m:Nat}(h:FIn H p r n q ts es tl m)(s:Same H H'):FIn H' p r n q ts es tl m:=⟨h.N.same s,s _ _ h.hR,h.len,h.hm⟩
def hdV:List Nat->V
 |[]=> .non
 |x::_=> .int x
section
variable{P:Program}{w:World}{K:PySem.W.Frag}{mg:Str->Option Value}{base:Heap}
abbrev sNf:Stmt:=top 45
abbrev nNf:List Str:=["net","tints","hub","fan","many","free","onward"]
abbrev nfS:Scope:=compScope (retE (stOf 45 1))
inductive spNf(vs:List V)(H:Hp)(Q:VK)(_z3:XK):Prop
 |mk (p r:Addr) (n:Nat) (q:Addr) (ts:List V) (es:List (Nat×Nat)) (tl:List (Option Nat)) (m hub:Nat) (fa:Addr) (F:List Nat) (_:vs=[.ref p,.ref r,.int hub,.ref fa,.int m]) (_:FIn H p r n q ts es tl m) (_:H fa=some (.lst (nl F))) (_:0<F.length) (_:lst F<es.length) (_:∀H',Same H H'->Q (hdV (onw es tl hub m F)) H')
theorem ZnN:(["tie","fan","free","tints"]:List Str).Nodup:=by decide+kernel
theorem scNf:Zm nNf ["net","tints","hub","fan","many"] (Zg sNf):=⟨rfl,rfl,rfl,by decide+kernel,rfl,by decide+kernel,by decide+kernel⟩
theorem ZmN:
  Blk (Yg CX0 P w K mg base nNf "next_in_fan" (Zg sNf) f cdv A outer s H E).nox nfS [("tints",s.heap.objs.size+1),("free",s.heap.objs.size+3),("fan",s.heap.objs.size+2)] ["tie","fan","free","tints"] [none,some 3,some 5,some 1]:=by
 refine⟨rfl,rfl,by decide+kernel,by decide+kernel,fun p g=>?_,fun y h e=>?_,⟨rfl,rfl,rfl⟩,⟨rfl,rfl,rfl⟩,⟨rfl,rfl,rfl⟩,trivial⟩
 ·simp[Qn,Qt,Q3]at g
  rcases g with rfl|rfl|rfl<;>rfl
 ·have d:y∈[((PySem.Str.ofString _),NameKind.local),(PySem.Str.ofString _,.local),(PySem.Str.ofString _,.free),(PySem.Str.ofString _,.free),(PySem.Str.ofString _,.free)]:=h
  simp[Qn,Qt,Q3]at d;rcases d with rfl|rfl|rfl|rfl|rfl<;>first|rfl|cases e
theorem Zmb(F:Fun K "next_in_fan" "next_in_fan" sNf f fd)(FFt:FnE P w K mg base "free_tints" ["net","tints","point","many"] 3 spFt)(FAt:FnE P w K mg base "ties_at" ["net","point"] 3 spAt)(FAc:FnE P w K mg base "across" ["net","tie","point"] 3 spAc):FnOk P w K mg base CX0 4 f fd ["net","tints","hub","fan","many"] spNf:=by
 refine F.ok scNf (fun vs H Q E h=>?_) (fun cdv A outer s H vs Q E hr h=>?_)
 ·obtain⟨p,r,n,q,ts,es,tl,m,hub,fa,F,rfl,_⟩:=h
  rfl
 ·obtain⟨p,r,n,qa,ts,es,tl,m,hub,fa,F,rfl,I,hF,hF0,hFl,q⟩:=h
  refine⟨_,Zb (Zl (i:=5) scNf.nd rfl (Or.inr rfl) (Zs FFt hr (Zc (pv 0) (Zc (pv 1) (Zc (Zs FAc hr (Zc (pv 0) (Zc (Zk Zz (pv 3) (J7 YE Ze) (fun _ _=>rfl)) (Zc (pv 2) Za)))) (Zc (pv 4) Za))))))
   (Zb (ZgP ZmN rfl (Zs FAt hr (Zc (pv 0) (Zc (pv 2) Za))) (ZaH Zfk (Z7 (Z9 0) (Z7 (Z9 2) Ye))) (fun C fp s H=>Zu (i:=0) ZnN rfl (Or.inl rfl))
    (fun C fp s H=>Y4 (PW.pt (pw_and (Zp (Zkp (K:=K) rfl) (Zk (Zax (K:=K) rfl) (pv 3) (pv 0) (fun _ _=>rfl)) (pv 2) rfl) (pw_and1 (Zp (ZfT (K:=K) rfl) (pv 0) (pv 1) rfl))))) (fun C fp s H=>pv 0) (Zu (i:=6) scNf.nd rfl (Or.inl rfl)) rfl)
   (Zf (Zn (YH (YU (pv 6) (fun _=>rfl)) (Zk Zz (pv 6) Ze (fun _ _=>rfl)) ZH)))),?_⟩
  have N:=I.N;have h200:=N.l200;refine⟨_,rfl,_,rfl,_,rfl,_,rfl,_,rfl,fa,_,_,_,rfl,rfl,SqL.of hF,Za5 hF0,_,rfl,p,n,qa,ts,es,lst F,hub,rfl,N,hFl,_,rfl,p,r,n,qa,ts,es,tl,tip es hub (lst F),m,rfl,N,I.hR,I.len,I.hm,fun H1 t1 s1 h1=>?_⟩;have I1:=I.same s1;refine⟨_,rfl,_,rfl,p,n,qa,ts,es,hub,rfl,I1.N,fun H2 t2 s2 h2=>?_⟩;have hal:(ats es hub).length<=es.length:=ZaT _ _ _;have hF2:=s2 _ _ (s1 _ _ hF);have hf2:=s2 _ _ h1;refine⟨t2,_,rfl,SqT.of h2,(by rw[Zy];omega),fun i ys σ G=>Same H2 G/\ys=nl (Ze1 es tl hub m F i)/\∃v0,σ=[v0,some (.ref fa),some (.ref t1),some (.ref r)],⟨Same.refl _,rfl,none,rfl⟩,fun i ys σ G hi⟨sG,e,_⟩=>⟨SqT.of (sG _ _ h2),by subst e;rw[Zy];exact Zhc _ _ _ _ _ _⟩,fun i x ys σ G hx xq1=>?_,fun ys σ G xq1 l H3 s3 hl=>?_⟩
  ·obtain⟨sG,e1,v0,e⟩:=xq1
   subst e1 e;obtain⟨y,hy,rfl⟩:=ZaG hx;have hyl:=(ats_mem.mp (Qj hy)).1;have hgt:=Qb (show y<tl.length by rw[I.len];exact hyl);have egd:tl.getD y none=tl[y]'(by rw[I.len];exact hyl):=by rw[Qi,hgt];rfl
   generalize tl[y]'(by rw[I.len];exact hyl)=o at hgt egd;have hsu:=ZfU (tl:=tl) (m:=m) (F:=F) hy;have eB:onB es tl hub m F y=(inV (tN o) (nl (frees es tl (tip es hub (lst F)) m))&&decide (y ∉ F)):=by
    unfold onB;rw[egd,Zm4]
   refine⟨_,rfl,_,rfl,r,_,_,_,rfl,rfl,SqT.of (sG _ _ (I1.same s2).hR),Zv (ZaB hgt),_,rfl,t1,_,rfl,.inr (SqT.of (sG _ _ hf2)),ZiW o,Zbj _,_,rfl,Z3 (fun z=>?_) (fun z=>?_)⟩
   ·refine⟨_,rfl,_,rfl,fa,_,rfl,.inl (SqL.of (sG _ _ hF2)),rfl,Zbj _,_,rfl,?_⟩
    have z':inV (tN o) (nl (frees es tl (tip es hub (lst F)) m))=true:=z;refine Z3 (fun z2=>?_) (fun z2=>?_)
    ·have hn:y ∉ F:=fun w=>by
      have z3:(!inV (.int (y:Int)) (nl F))=true:=z2;rw[(ZbK y F).mpr w]at z3;cases z3
     refine⟨_,rfl,sG,?_,_,rfl⟩;rw[hsu,eB,z',Qu hn,nl_app];rfl
    ·have hn:y∈F:=Qv fun w=>z2 (by
      rw[U3.mpr fun z3=>w ((ZbK y F).mp z3)];rfl)
     refine⟨sG,?_,_,rfl⟩;rw[hsu,eB,QX (fun w=>w hn),Bool.and_false,if_neg (by decide),UY]
   ·refine ZA ⟨sG,?_,_,rfl⟩
    have z':inV (tN o) (nl (frees es tl (tip es hub (lst F)) m))=false:=U3.mpr z;rw[hsu,eB,z',Bool.false_and,if_neg (by decide),UY]
  ·obtain⟨sG,e1,_⟩:=xq1
   subst e1;have eO:Ze1 es tl hub m F (nl (ats es hub)).length=onw es tl hub m F:=by
    rw[Zy];unfold Ze1;rw[UL];rfl
   rw[eO]at hl;have s03:=Same.trans s1 (Same.trans s2 (Same.trans sG s3));refine⟨_,rfl,_,.inl ⟨_,SqL.of hl,rfl⟩,?_⟩;cases qo:onw es tl hub m F with
   |nil=>
    rw[qo]at q;exact ZA (q H3 s03)
   |cons x xs=>
    rw[qo]at q hl;exact Yi ⟨_,rfl,l,_,_,_,rfl,rfl,SqL.of hl,Zv (j:=0) (nl_get rfl),q H3 s03⟩
end
end My
namespace L2
open PySem PySem.Spec PyProof.Rows
theorem Zh9{K}{a c}{xs ys}{g:TG}{tb:TS}{D:Ends}{σ:St}{H:Hp}(Pv:Nat->St->Hp->Prop)(hlen:ys.length<=xs.length)(h0:Pv 0 σ H)(hl:∀i σ H,i<=ys.length->Pv i σ H->SqL K H a xs/\SqL K H c ys)
  (hs:∀i x y σ H,xs[i]?=some x->ys[i]?=some y->Pv i σ H->∀T H1,Same H H1->H1 T=some (.tup [x,y])->g (.ref T) σ H1 fun σ2 H2=>tb {D with nx:=Pv (i+1),ct:=Pv (i+1),bk:=D.nx} σ2 H2) (hd:∀σ H,Pv ys.length σ H->D.nx σ H):
  ∃W:Nat->Nat->St->Hp->Prop,(∃m,W 0 m σ H)/\∀i m σ H,W i m σ H->
   ((Itw K a c).stop i H/\D.nx σ H)\/((Itw K a c).go i H/\∃N:St->Hp->Prop,(∀σ' H',N σ' H'->∃m',m'<m/\W (i+1) m' σ' H')/\∀x H',(Itw K a c).yld i H x H'->g x σ H' fun σ2 H2=>tb {D with nx:=N,ct:=N,bk:=D.nx} σ2 H2):=by
 refine⟨fun i m σ H=>m=ys.length-i/\i<=ys.length/\Pv i σ H,⟨ys.length,by simp,QE _,h0⟩,?_⟩;rintro i m σ H ⟨rfl,l,p⟩;obtain⟨f,d⟩:=hl i σ H l p;by_cases b:i<ys.length
 ·refine .inr ⟨⟨xs,ys,xs[i],ys[i],f,d,by simp[(show i<xs.length by omega)],by simp[b]⟩,_,fun σ' H' o=>⟨_,by omega,rfl,b,o⟩,fun x H' y=>?_⟩
  obtain⟨T,u,v,rfl,k,rfl,n,j⟩:=y;exact hs i u v σ H (n xs f) (j ys d) p T _ (Z0 k) Zd
 ·have e:i=ys.length:=by omega
  subst e;exact .inl ⟨⟨xs,ys,f,d,.inr (Qe _)⟩,hd σ H p⟩
end L2
namespace My
open PySem L2
theorem ZhC{F}(h:0<(both es tl hub (tip es hub (lst F)) m).length):Ju es tl hub m (d+1) F=F:=by rw[Ju,if_pos h]
theorem ZiY{F}(h:¬0<(both es tl hub (tip es hub (lst F)) m).length)(e:onw es tl hub m F=[]):Ju es tl hub m (d+1) F=F:=by
 rw[Ju,if_neg h];simp[e]
theorem ZkO{hub m d x}{F xs}(h:¬0<(both es tl hub (tip es hub (lst F)) m).length)(e:onw es tl hub m F=x::xs):Ju es tl hub m (d+1) F=Ju es tl hub m d (F++[x]):=by
 rw[Ju,if_neg h];simp[e]
theorem ZhO(h:0<F.length):Zdk (nl F) (some 1) none=nl (F.drop 1):=by
 unfold Zdk;rw[show 1=((1:Nat):Int)from rfl,HT.sIx_nat,HT.sIx_none,Zy,Nat.min_eq_left h,List.take_of_length_le (by rw[List.length_drop,Zy];exact Qe _)];unfold nl;rw[List.map_drop]
section
variable{P:Program}{w:World}{K:PySem.W.Frag}{mg:Str->Option Value}{base:Heap}
abbrev sFa:Stmt:=top 46
abbrev nFa:List Str:=["net","tints","hub","tie","many","fan","following"]
inductive spFa(vs:List V)(H:Hp)(Q:VK)(_z3:XK):Prop
 |mk (p r:Addr) (n:Nat) (q:Addr) (ts:List V) (es:List (Nat×Nat)) (tl:List (Option Nat)) (m hub k:Nat) (_:vs=[.ref p,.ref r,.int hub,.int k,.int m]) (_:FIn H p r n q ts es tl m) (_:k<es.length) (_:At (es.getD k (0,0)) hub) (_:∀H' l,Same H H'->H' l=some (.lst (nl (Ju es tl hub m es.length [k])))->Q (.ref l) H')
theorem scFa:Zm nFa ["net","tints","hub","tie","many"] (Zg sFa):=⟨rfl,rfl,rfl,by decide+kernel,rfl,by decide+kernel,by decide+kernel⟩
theorem Zmp(F:Fun K "fan_of" "fan_of" sFa f fd)(FFb:FnE P w K mg base "free_at_both" ["net","tints","one","other","many"] 4 spFb)(FAc:FnE P w K mg base "across" ["net","tie","point"] 4 spAc)(FNf:FnE P w K mg base "next_in_fan" ["net","tints","hub","fan","many"] 4 spNf):
  FnOk P w K mg base CX0 5 f fd ["net","tints","hub","tie","many"] spFa:=by
 refine F.ok scFa (fun vs H Q E h=>?_) (fun cdv A outer s H vs Q E hr h=>?_)
 ·obtain⟨p,r,n,q,ts,c,tl,m,b,k,rfl,_⟩:=h
  rfl
 ·obtain⟨p,r,n,qa,ts,c,tl,m,b,k,rfl,I,hk,hak,q⟩:=h
  refine⟨_,Zb (Zl (i:=5) scFa.nd rfl (Or.inl rfl) (ZI (Zc (pv 3) Za)))
   (Zb (J6 QD (Yq (YU (Zs FFb hr (Zc (pv 0) (Zc (pv 1) (Zc (pv 2) (Zc (Zs FAc hr (Zc (pv 0) (Zc (Zk Zz (pv 5) (J7 YE Ze) (fun _ _=>rfl)) (Zc (pv 2) Za)))) (Zc (pv 4) Za)))))) (fun _=>rfl)))
    (Zb (Zl (i:=6) scFa.nd rfl (Or.inl rfl) (Zs FNf hr (Zc (pv 0) (Zc (pv 1) (Zc (pv 2) (Zc (pv 5) (Zc (pv 4) Za)))))))
    (Zb (Z2 (Zp ZbA (pv 6) ZH (Zx _)) (Zf (Zn (pv 5))) Zw)
    (Zf (ZF (Y6 QB QG QH ZC (pv 5) (Zc (pv 6) Za)))))))
   (Zf (Zn (pv 5)))),?_⟩
  have h200:=I.N.l200;refine⟨_,rfl,(by show 1<=sizeLine;decide),fun fa hfa=>⟨fun d σ G=>∃(F:List Nat)(v6:Option V),F.length+d=c.length+1/\σ=[some (.ref p),some (.ref r),some (.int (b:Int)),some (.int (k:Int)),some (.int (m:Int)),some (.ref fa),v6]/\Same H G/\G fa=some (.lst (nl F))/\FanOk c tl b k m F/\Ju c tl b m d F=Ju c tl b m c.length [k],
   ⟨c.length,[k],_,Nat.add_comm _ _,rfl,(show Same H (upd H fa (.lst [.int (k:Int)]))from Zh hfa),Zd,FanOk.start hk hak,rfl⟩,fun d σ G xq1=>?_⟩⟩
  obtain⟨F,v6,hd,e,sG,gF,fo,ef⟩:=xq1;subst e;have hFl:=fo.le;obtain⟨d',rfl⟩:∃d',d=d'+1:=⟨d-1,by omega⟩;have IG:=I.same sG;obtain⟨hll,_⟩:=fo.at' _ fo.lst_in;refine⟨_,rfl,_,rfl,_,rfl,_,rfl,_,rfl,_,rfl,fa,_,_,_,rfl,rfl,SqL.of gF,Za5 fo.pos,_,rfl,p,n,qa,ts,c,lst F,b,rfl,IG.N,hll,_,rfl,p,r,n,qa,ts,c,tl,b,tip c b (lst F),m,rfl,IG.N,IG.hR,I.len,I.hm,fun H1 t1 s1 h1=>?_⟩;have sG1:=Same.trans sG s1;by_cases h0:0<(both c tl b (tip c b (lst F)) m).length
  ·refine⟨true,.inr (.inl ⟨_,SqT.of h1,?_⟩),ZA ⟨_,rfl,q H1 fa sG1 (by rw[<-ef,ZhC h0];exact s1 _ _ gF)⟩⟩
   cases hz:both c tl b (tip c b (lst F)) m with
   |nil=>rw[hz]at h0;cases h0
   |cons _ _=>rfl
  ·refine⟨false,.inr (.inl ⟨_,SqT.of h1,?_⟩),Yi ⟨fun σ' G=>∃m',m'<d'+1/\∃(F:List Nat)(v6:Option V),F.length+m'=c.length+1/\σ'=[some (.ref p),some (.ref r),some (.int (b:Int)),some (.int (k:Int)),some (.int (m:Int)),some (.ref fa),v6]/\Same H G/\G fa=some (.lst (nl F))/\FanOk c tl b k m F/\Ju c tl b m m' F=Ju c tl b m c.length [k],fun _ _ h=>h,?_⟩⟩
   ·cases hz:both c tl b (tip c b (lst F)) m with
    |nil=>rfl
    |cons _ _=>exact absurd (by rw[hz];exact Vg _) h0
   ·have gF1:=s1 _ _ gF
    refine⟨_,rfl,_,rfl,_,rfl,_,rfl,_,rfl,p,r,n,qa,ts,c,tl,m,b,fa,F,rfl,(I.same sG1),gF1,fo.pos,hll,fun H2 s2=>?_⟩;have sG2:=Same.trans sG1 s2;cases qo:onw c tl b m F with
    |nil=>exact⟨_,rfl,rfl,_,rfl,Yi ⟨_,rfl,q H2 fa sG2 (by rw[<-ef,ZiY h0 qo];exact s2 _ _ gF1)⟩⟩
    |cons x xs=>
     refine⟨_,rfl,rfl,_,rfl,ZA ⟨_,rfl,.inl ⟨rfl,_,SqL.of (s2 _ _ gF1)⟩,_,rfl,fa,_,_,rfl,rfl,s2 _ _ gF1,(by rw[Zy,QP];omega),d',Q7 _,F++[x],_,?_,rfl,sG2.wr hfa,?_,fo.next I.len qo,by rw[<-ZkO h0 qo];exact ef⟩⟩
     ·rw[Qk,QF];omega
     ·rw[Zd,<-nl_app]
      rfl
abbrev sHn:Stmt:=top 47
abbrev nHn:List Str:=["tints","fan","last_tint","steps","tie","following"]
inductive spHn(vs:List V)(H:Hp)(Q:VK)(_z3:XK):Prop
 |mk (r fa:Addr) (tl:List (Option Nat)) (F:List Nat) (la:Nat) (_:vs=[.ref r,.ref fa,.int la]) (_:H r=some (.tup (tv tl))) (_:H fa=some (.lst (nl F))) (_:0<F.length) (_:F.length<=200) (_:(∀i b,F[i+1]?=some b->∃t,tl[b]?=some (some t))) (_:∀H' l,Same H H'->H l=none->ShSt H' l (hnd tl la F)->Q (.ref l) H')
theorem scHn:Zm nHn ["tints","fan","last_tint"] (Zg sHn):=⟨rfl,rfl,rfl,by decide+kernel,rfl,by decide+kernel,by decide+kernel⟩
theorem Zml(F:Fun K "handed_on" "handed_on" sHn f fd)(T:Bi mg):FnOk P w K mg base CX0 1 f fd ["tints","fan","last_tint"] spHn:=by
 refine F.ok scHn (fun vs H Q E h=>?_) (fun cdv A outer s H vs Q E hr h=>?_)
 ·obtain⟨r,fa,tl,F,la,rfl,_⟩:=h
  rfl
 ·obtain⟨r,fa,tl,F,la,rfl,hR,hF,hF0,hF200,hful,q⟩:=h
  refine⟨_,Zb (Zl (i:=3) scHn.nd rfl (Or.inl rfl) (ZI Za))
   (Zb (ZG QD rfl (Zi3 rfl T.zip (Zc (pv 1) (Zc (Zb5 ZcL (pv 1) (ZcQ Ze) ZcR) Za)) rfl rfl) (ZaC rfl (ZP (Zu (i:=4) scHn.nd rfl (Or.inl rfl)) (ZP (Zu (i:=5) scHn.nd rfl (Or.inl rfl)) Ji)))
    (Zb (ZF (Y6 QB QG QH ZC (pv 3) (Zc (ZcT (Zc ZM (Zc (pv 5) Za))) Za)))
    (Zf (ZF (Y6 QB QG QH ZC (pv 3) (Zc (ZcT (Zc ZM (Zc (pv 4) (Zc (Zk Zj (pv 0) (pv 5) (fun _ _=>rfl)) Za)))) Za))))))
   (Zb (ZF (Y6 QB QG QH ZC (pv 3) (Zc (ZcT (Zc ZM (Zc (Zk Zz (pv 1) (J7 YE Ze) (fun _ _=>rfl)) (Zc (pv 2) Za)))) Za)))
   (Zf (Zn (pv 3))))),QE _,fun st hst=>?_⟩
  have s0:Same H (upd H st (.lst [])):=Zh hst;refine⟨_,rfl,_,rfl,_,rfl,fa,_,rfl,SqL.of (s0 _ _ hF),fun c hc=>?_⟩;rw[ZhO hF0];have ncs:c≠st:=fun z=>by rw[z,Zd]at hc;cases hc
  have s01:Same (upd H st (.lst [])) (upd (upd H st (.lst [])) c (.lst (nl (F.drop 1)))):=Zh hc;have s1:=Same.trans s0 s01;have dl:(F.drop 1).length=F.length-1:=List.length_drop;refine⟨fa,c,rfl,⟨_,SqL.of (s1 _ _ hF)⟩,⟨_,SqL.of Zd⟩,Zh9 (K:=K) (a:=fa) (c:=c) (xs:=nl F) (ys:=nl (F.drop 1)) (fun i σ G=>E3 fun(tr:List (Addr×Stp))(v4 v5:Option V)=>σ=[some (.ref r),some (.ref fa),some (.int (la:Int)),some (.ref st),v4,v5]/\Same H G/\G c=some (.lst (nl (F.drop 1)))/\G st=some (.lst (tr.map fun x=>V.ref x.1))/\tr.length=2*i/\(∀x∈tr,G x.1=some (.tup (stV x.2)))/\tr.map (·.2)++hnd tl la (F.drop i)=hnd tl la F)
   (by rw[Zy,Zy];omega) ⟨[],_,_,rfl,s1,Zd,s01 _ _ Zd,rfl,(fun x hx=>by cases hx),rfl⟩ (fun i σ G _⟨tr,v4,v5,_,sG,gc,_⟩=>⟨SqL.of (sG _ _ hF),SqL.of gc⟩) (fun i x y σ G hx hy xq1 TT G1 u1 hTT=>?_) (fun σ G xq1=>?_)⟩
  ·obtain⟨tr,v4,v5,e,sG,gc,gs,htr,hU,hE⟩:=xq1
   subst e;obtain⟨a,ha,rfl⟩:=ZaG hx;obtain⟨b,hb,rfl⟩:=ZaG hy;have hb':F[i+1]?=some b:=by rw[List.getElem?_drop,Nat.add_comm]at hb;exact hb
   obtain⟨t,ht⟩:=hful i b hb';have hil:i+1<F.length:=(Qd.mp hb').1;have sG1:=Same.trans sG u1;refine⟨TT,_,rfl,SqT.of hTT,rfl,_,_,rfl,_,_,rfl,rfl,_,rfl,.inl ⟨rfl,_,SqL.of (u1 _ _ gs)⟩,_,rfl,(by show 2<=sizeLine;decide),fun w1 hw1=>⟨st,_,_,rfl,rfl,Zh hw1 _ _ (u1 _ _ gs),(by rw[Qq,QP];omega),?_⟩⟩;have g2s:(upd G1 w1 (.tup [.str "bare",.int (b:Int)])) st=some (.lst (tr.map fun x=>V.ref x.1)):=Zh hw1 _ _ (u1 _ _ gs);have t2:Tk G1 (upd (upd G1 w1 (.tup [.str "bare",.int (b:Int)])) st (.lst ((tr.map fun x=>V.ref x.1)++[.ref w1]))):=Tk.trans (Same.tk (Zh hw1)) (Zeh g2s);have k2:∀q xs,q≠st->G1 q=some (.lst xs)->(upd (upd G1 w1 (.tup [.str "bare",.int (b:Int)])) st (.lst ((tr.map fun x=>V.ref x.1)++[.ref w1]))) q=some (.lst xs):=fun q xs hq e=>by rw[Zi hq];exact Zh hw1 _ _ e
   have s2:Same H (upd (upd G1 w1 (.tup [.str "bare",.int (b:Int)])) st (.lst ((tr.map fun x=>V.ref x.1)++[.ref w1]))):=(Same.trans sG1 (Zh hw1)).wr hst;have w12:(upd (upd G1 w1 (.tup [.str "bare",.int (b:Int)])) st (.lst ((tr.map fun x=>V.ref x.1)++[.ref w1]))) w1=some (.tup (stV (.bare b))):=by rw[Zi (Ne.symm (Zq (u1 _ _ gs) hw1))];exact Zd
   have gs2:(upd (upd G1 w1 (.tup [.str "bare",.int (b:Int)])) st (.lst ((tr.map fun x=>V.ref x.1)++[.ref w1]))) st=some (.lst ((tr.map fun x=>V.ref x.1)++[.ref w1])):=Zd;generalize upd (upd G1 w1 (.tup [.str "bare",.int (b:Int)])) st (.lst ((tr.map fun x=>V.ref x.1)++[.ref w1]))=G2 at t2 k2 s2 w12 gs2⊢;refine⟨_,rfl,.inl ⟨rfl,_,SqL.of gs2⟩,_,rfl,_,rfl,_,rfl,r,_,_,_,rfl,rfl,SqT.of (s2 _ _ hR),Zv (ZaB ht),(by show 3<=sizeLine;decide),fun w2 hw2=>⟨st,_,_,rfl,rfl,Zh hw2 _ _ gs2,(by rw[Qk,Qq,QP];simp[QF];omega),?_⟩⟩;have g3s:=Zh (o:=HO.tup [.str "tint",.int (a:Int),tN (some t)]) hw2 _ _ gs2;have t3:=Tk.trans (Same.tk (Zh (o:=HO.tup [.str "tint",.int (a:Int),tN (some t)]) hw2)) (Zeh (ys:=((tr.map fun x=>V.ref x.1)++[.ref w1])++[.ref w2]) g3s);refine⟨tr++[(w1,.bare b),(w2,.tint a t)],_,_,rfl,(Same.trans s2 (Zh hw2)).wr hst,?_,?_,?_,fun x hx=>?_,?_⟩
   ·rw[Zi ncs]
    exact Zh hw2 _ _ (k2 _ _ ncs (u1 _ _ gc))
   ·rw[Zd,QO,List.append_assoc]
    rfl
   ·rw[Qk]
    show tr.length+2=_;omega
   ·rcases Qw.mp hx with hx|hx
    ·exact t3 _ _ (t2 _ _ (u1 _ _ (hU x hx)))
    ·simp[Qn,Qt,Q3]at hx
     rcases hx with rfl|rfl
     ·exact t3 _ _ w12
     ·show(upd (upd G2 w2 _) st _) w2=_
      rw[Zi (Ne.symm (Zq gs2 hw2))];exact Zd
   ·rw[<-hE]
    have e1:F.drop i=a::b::F.drop (i+2):=by
     rw[Um (by omega),Um (i:=i+1) hil];rw[Qb (by omega)]at ha hb';rw[Option.some.inj ha,Option.some.inj hb']
    have e2:F.drop (i+1)=b::F.drop (i+2):=by
     rw[Um hil];rw[Qb hil]at hb';rw[Option.some.inj hb']
    have e3:(tl.getD b none).getD 0=t:=by rw[Qi,ht];rfl
    rw[e1,e2,hnd,e3,QO,List.append_assoc];rfl
  ·obtain⟨tr,v4,v5,e,sG,gc,gs,htr,hU,hE⟩:=xq1
   subst e;rw[Zy,dl]at htr hE;have sp:F.drop (F.length-1)=[lst F]:=by
    have e:=Jo hF0;rw[Um (by omega)];rw[Qb (by omega)]at e;rw[Option.some.inj e,show F.length-1+1=F.length by omega,List.drop_length]
   rw[sp]at hE;refine⟨_,rfl,.inl ⟨rfl,_,SqL.of gs⟩,_,rfl,_,rfl,fa,_,_,_,rfl,rfl,SqL.of (sG _ _ hF),Za5 hF0,_,rfl,(by show 3<=sizeLine;decide),fun w1 hw1=>⟨st,_,_,rfl,rfl,Zh hw1 _ _ gs,(by rw[Qq,QP];omega),?_⟩⟩;have g2s:=Zh (o:=HO.tup [.str "tint",.int (lst F:Int),.int (la:Int)]) hw1 _ _ gs;have t2:=Tk.trans (Same.tk (Zh (o:=HO.tup [.str "tint",.int (lst F:Int),.int (la:Int)]) hw1)) (Zeh (ys:=(tr.map fun x=>V.ref x.1)++[.ref w1]) g2s);refine⟨_,rfl,q _ st ((Same.trans sG (Zh hw1)).wr hst) hst ⟨tr++[(w1,.tint (lst F) la)],?_,?_,fun x hx=>?_⟩⟩
   ·rw[Zd,QO]
    rfl
   ·rw[<-hE,QO]
    rfl
   ·rcases Qw.mp hx with hx|hx
    ·exact t2 _ _ (hU x hx)
    ·rw[Qf.mp hx]
     show(upd (upd G w1 _) st _) w1=_;rw[Zi (Ne.symm (Zq gs hw1))];exact Zd
end
theorem ZhQ(F)(i:Nat):Zdk (nl F) none (some i)=nl (F.take i):=by
 unfold Zdk;rw[HT.sIx_none,HT.sIx_nat,List.drop_zero,Zy,Nat.sub_zero];unfold nl
 simp_all
theorem gd_iff{tl:List (Option Nat)}{x t}:decide (tl.getD x none=some t)=true↔tl[x]?=some (some t):=by
 cases q:tl[x]? with
 |none=>simp_all
 |some o=>simp_all
theorem ZfS{i x}(hi:i<plc tl F t)(hx:F[i]?=some x):tl[x]?≠some (some t):=by
 unfold plc at hi;cases q:F.findIdx? fun x=>decide (tl.getD x none=some t)with
 |none=>rw[q]at hi;simp_all
 |some j=>
  rw[q]at hi;obtain⟨_,_,b⟩:=List.findIdx?_eq_some_iff_getElem.mp q;intro z;have:=b i hi;obtain⟨_,e⟩:=Qd.mp hx
  simp_all
structure Zog(es:List (Nat×Nat))(tl:List (Option Nat))(hub k m n:Nat)(F:List Nat):Prop where
 pl:YK es
 hC:CleanTo es tl es.length
 hb:tl[k]?=some none
 hM:∃M,(∀x,x<n->dg es es.length x<=M)/\M<m
 hn:hub<n
 fo:FanOk es tl hub k m F
 h0:¬0<(both es tl hub (tip es hub (lst F)) m).length
 hon:onw es tl hub m F=[]
theorem ZbN{x m M}(h:dg es es.length x<=M)(hm:M<m):0<(frees es tl x m).length:=by
 have _:=YY es tl x m;have _:=ZhR es tl x;omega
def bmE:Stmt->Expr
 | .Assign _ (.Call (.Attribute e _ _) _ _ _) _=>e
 |_=> .Constant .none 0 ⟨0,0,0,0⟩
section
variable{P:Program}{w:World}{K:PySem.W.Frag}{mg:Str->Option Value}{base:Heap}
abbrev sTh:Stmt:=top 48
abbrev thS:Scope:=compScope (bmE (stOf 48 3))
abbrev nTh:List Str:=["net","tints","hub","fan","many","one","other","behind","place","tip","used"]
inductive spTh(vs:List V)(H:Hp)(Q:VK)(_z3:XK):Prop
 |mk (p r:Addr) (n:Nat) (q:Addr) (ts:List V) (es:List (Nat×Nat)) (tl:List (Option Nat)) (m hub k:Nat) (fa:Addr) (F:List Nat) (_:vs=[.ref p,.ref r,.int hub,.ref fa,.int m]) (_:FIn H p r n q ts es tl m) (_:es.length<64) (_:H fa=some (.lst (nl F))) (_:Zog es tl hub k m n F) (_:∀H' l,Same H H'->H l=none->ShSt H' l (Zbt es tl hub m F)->Q (.ref l) H')
theorem ZnK:(["tie","tints"]:List Str).Nodup:=by decide+kernel
theorem scTh:Zm nTh ["net","tints","hub","fan","many"] (Zg sTh):=⟨rfl,rfl,rfl,by decide+kernel,rfl,by decide+kernel,by decide+kernel⟩
theorem ZmJ:
  Blk (Yg CX0 P w K mg base nTh "turned_and_handed_on" (Zg sTh) f cdv A outer s H E).nox thS [("tints",s.heap.objs.size+1)] ["tie","tints"] [none,some 1]:=by
 refine⟨rfl,rfl,by decide+kernel,by decide+kernel,fun p d=>?_,fun y g e=>?_,⟨rfl,rfl,rfl⟩,trivial⟩
 ·rw[Qf.mp d]
  rfl
 ·have c:y∈[((PySem.Str.ofString _),NameKind.local),(PySem.Str.ofString _,.local),(PySem.Str.ofString _,.free)]:=g
  simp[Qn,Qt,Q3]at c
  grind
theorem ZlS(F:Fun K "turned_and_handed_on" "turned_and_handed_on" sTh f fd)(FFt:FnE P w K mg base "free_tints" ["net","tints","point","many"] 4 spFt)(FAc:FnE P w K mg base "across" ["net","tie","point"] 4 spAc)(FTu:FnE P w K mg base "turned" ["net","tints","point","one","other"] 4 spTu)(FHn:FnE P w K mg base "handed_on" ["tints","fan","last_tint"] 4 spHn):
  FnOk P w K mg base CX0 5 f fd ["net","tints","hub","fan","many"] spTh:=by
 refine F.ok scTh (fun vs H Q E h=>?_) (fun cdv A outer s H vs Q E hr h=>?_)
 ·obtain⟨p,r,n,q,ts,es,tl,m,hub,k,fa,F,rfl,_⟩:=h
  rfl
 ·obtain⟨p,r,n,qa,ts,es,tl,m,hub,k,fa,F,rfl,I,h64,hF,hT,q⟩:=h
  refine⟨_,Zb (Zl (i:=5) scTh.nd rfl (Or.inl rfl) (Zk Zj (Zs FFt hr (Zc (pv 0) (Zc (pv 1) (Zc (pv 2) (Zc (pv 4) Za))))) Ze (fun _ _=>rfl)))
   (Zb (Zl (i:=6) scTh.nd rfl (Or.inl rfl) (Zk Zj (Zs FFt hr (Zc (pv 0) (Zc (pv 1) (Zc (Zs FAc hr (Zc (pv 0) (Zc (Zk Zz (pv 3) (J7 YE Ze) (fun _ _=>rfl)) (Zc (pv 2) Za)))) (Zc (pv 4) Za))))) Ze (fun _ _=>rfl)))
   (Zb (Zl (i:=7) scTh.nd rfl (Or.inl rfl) (Zs FTu hr (Zc (pv 0) (Zc (pv 1) (Zc (pv 2) (Zc (pv 5) (Zc (pv 6) Za)))))))
   (Zb (Zl (i:=8) scTh.nd rfl (Or.inl rfl) (Y6 QB PySem.F.slot_list_index PySem.F.type_list_index (ZfW (K:=K) rfl) (ZgR ZmJ rfl (pv 3) (Z9 3) (fun C fp s H=>Zu (i:=0) ZnK rfl (Or.inl rfl)) (fun C fp s H=>Zbd) (fun C fp s H=>Zk (Zax (K:=K) rfl) (pv 1) (pv 0) (fun _ _=>rfl))) (Zc (pv 6) Za)))
   (Zb (Zl (i:=9) scTh.nd rfl (Or.inl rfl) (Zs FAc hr (Zc (pv 0) (Zc (Zk Zz (pv 3) (Zt Jk (pv 8) Ze) (fun _ _=>rfl)) (Zc (pv 2) Za)))))
   (Zb (Zl (i:=10) scTh.nd rfl (Or.inl rfl) (YH (Zp JJ (pv 6) (Zs FFt hr (Zc (pv 0) (Zc (pv 7) (Zc (pv 9) (Zc (pv 4) Za))))) rfl) (Zb5 ZcL (pv 3) ZcR (ZcQ (pv 8))) (pv 3)))
   (Zf (Zn (Zt op_cat (ZI (Zc (Z1 (Zc ZM (Zc (pv 2) (Zc (pv 5) (Zc (pv 6) Za))))) Za)) (Zs FHn hr (Zc (pv 7) (Zc (pv 10) (Zc (pv 6) Za)))))))))))),?_⟩
  have N:=I.N;obtain⟨M,hM,hm⟩:=hT.hM;obtain⟨_,xs0,p1,p2,pc0⟩:=ZeP N.ok hT.pl hT.hC I.len hT.hb hM hm hT.hn hT.fo hT.h0 hT.hon;have fo:=hT.fo;obtain⟨hll,hla⟩:=fo.at' _ fo.lst_in;have f2:=ZbN (tl:=tl) (hM _ (Zej (hub:=hub) N.ok hll)) hm;have hFl:=fo.le;have hle:=fun x hx=>(fo.at' x hx).1;refine⟨_,rfl,_,rfl,_,rfl,_,rfl,p,r,n,qa,ts,es,tl,hub,m,rfl,N,I.hR,I.len,I.hm,fun H1 t1 s1 h1=>⟨t1,_,_,_,rfl,rfl,SqT.of h1,Zv (j:=0) (nl_get (Yc (ZbN (tl:=tl) (hM hub hT.hn) hm))),?_⟩⟩;have I1:=I.same s1;refine⟨_,rfl,_,rfl,_,rfl,_,rfl,_,rfl,fa,_,_,_,rfl,rfl,SqL.of (s1 _ _ hF),Za5 fo.pos,_,rfl,p,n,qa,ts,es,lst F,hub,rfl,I1.N,hll,_,rfl,p,r,n,qa,ts,es,tl,tip es hub (lst F),m,rfl,I1.N,I1.hR,I.len,I.hm,fun H2 t2 s2 h2=>⟨t2,_,_,_,rfl,rfl,SqT.of h2,Zv (j:=0) (nl_get (Yc f2)),?_⟩⟩;have I2:=I1.same s2;have s12:=Same.trans s1 s2;refine⟨_,rfl,_,rfl,_,rfl,_,rfl,_,rfl,p,r,n,qa,ts,es,tl,hub,oneOf es tl hub m,ZL es tl hub m F,rfl,I2.N,I2.hR,I.len,h64,fun H3 b3 S s3 h3 hS hRT=>?_⟩;have eS:=ZkU hS hRT;subst eS;have s13:=Same.trans s12 s3;have I3:=I2.same s3;have hF3:=s13 _ _ hF;have eb:trn tl (oneOf es tl hub m) (ZL es tl hub m F) (chS es tl (oneOf es tl hub m) (ZL es tl hub m F) hub)=ZaS es tl hub m F:=rfl;rw[eb]at h3;have blen:(ZaS es tl hub m F).length=es.length:=by rw[<-eb,Je];exact I.len
  have bbare:∀j,(ZaS es tl hub m F)[j]?=some none↔tl[j]?=some none:=fun j=>by
   rw[<-eb];exact Ja fun j hj=>((hRT j).mp hj).2.1
  refine⟨_,rfl,fa,_,rfl,SqL.of hF3,(by rw[Zy];omega),fun i ys σ G=>Same H3 G/\ys=(F.take i).map (fun x=>tN (tl.getD x none))/\∃v0,σ=[v0,some (.ref r)],⟨Same.refl _,rfl,none,rfl⟩,fun i ys σ G hi⟨sG,e,_⟩=>⟨SqL.of (sG _ _ hF3),by subst e;rw[Qq,UC];omega⟩,fun i x ys σ G hx xq1=>?_,fun ys σ G xq1 pl H4 s4 hpl=>?_⟩
  ·obtain⟨sG,e1,v0,e⟩:=xq1
   subst e1 e;obtain⟨y,hy,rfl⟩:=ZaG hx;have hgt:=Qb (show y<tl.length by rw[I.len];exact hle y (Qj hy));refine⟨_,rfl,_,rfl,r,_,_,_,rfl,rfl,SqT.of (sG _ _ I3.hR),Zv (ZaB hgt),sG,?_,_,rfl⟩;rw[Ue,hy];show List.map _ (F.take i)++[_]=List.map _ (F.take i++[y]);rw[QO,List.map_singleton,Qi,hgt];rfl
  obtain⟨sG,e1,_⟩:=xq1;subst e1;rw[Zy,UL]at hpl;have s34:=Same.trans sG s4;have s14:=Same.trans s13 s34;have I4:=I3.same s34;refine⟨.inl ⟨rfl,_,SqL.of hpl⟩,_,rfl,pl,_,_,plc tl F (ZL es tl hub m F),rfl,rfl,SqL.of hpl,fun x hx=>?_,?_,fun i hi z=>?_,?_⟩
  ·obtain⟨y,_,rfl⟩:=QQ.mp hx
   cases tl.getD y none with
   |none=>exact .inl rfl
   |some t=>exact .inr ⟨_,rfl⟩
  ·rw[Qx,p1]
   show some (tN (tl.getD xs0 none))=_;rw[Qi,p2];rfl
  ·rw[Qx]at z
   cases hx:F[i]? with
   |none=>rw[hx]at z;cases z
   |some x=>
    rw[hx]at z;have z2:tN (tl.getD x none)=tN (some (ZL es tl hub m F)):=Option.some.inj z;refine ZfS hi hx (gd_iff.mp (Qu ?_));cases q:tl.getD x none with
    |none=>rw[q]at z2;cases z2
    |some t=>
     rw[q]at z2;have:=V.int.inj z2;rw[show t=ZL es tl hub m F by omega]
  obtain⟨q0,hq0⟩:∃a,F[plc tl F (ZL es tl hub m F)-1]?=some a:=⟨_,Qb (by have:=(Qd.mp p1).1;omega)⟩;have q0l:=hle q0 (Qj hq0);have gdq:F.getD (plc tl F (ZL es tl hub m F)-1) 0=q0:=by rw[Qi,hq0];rfl
  refine⟨_,rfl,_,rfl,_,rfl,_,_,rfl,rfl,fa,_,_,_,rfl,rfl,SqL.of (s14 _ _ hF),(by rw[show((plc tl F (ZL es tl hub m F):Nat):Int)-1=((plc tl F (ZL es tl hub m F)-1:Nat):Int) by omega];exact Zv (nl_get hq0)),_,rfl,p,n,qa,ts,es,q0,hub,rfl,I4.N,q0l,_,rfl,_,rfl,_,rfl,_,rfl,_,rfl,p,b3,n,qa,ts,es,ZaS es tl hub m F,oth (es.getD q0 (0,0)) hub,m,rfl,I4.N,s34 _ _ h3,blen,I.hm,fun H5 t5 s5 h5=>⟨t5,_,rfl,.inr (SqT.of h5),rfl,Zbj _,_,rfl,?_⟩⟩;have s15:=Same.trans s14 s5;have hB5:=s5 _ _ (s34 _ _ h3);have fin:∀(H6:Hp)(ua:Addr)(U:List Nat),Same H5 H6->H6 ua=some (.lst (nl U))->U=JS es tl hub m F->0<U.length->U.length<=F.length->(∀i b,U[i+1]?=some b->F[i+1]?=some b)->∀(a1:Addr)(G1:Hp),Same H6 G1->G1 a1=some (.tup [.str "turn",.int (hub:Int),.int (oneOf es tl hub m:Int),.int (ZL es tl hub m F:Int)])->∀l4,G1 l4=none->∀E,spHn [.ref b3,.ref ua,.int (ZL es tl hub m F:Int)] (upd G1 l4 (.lst [.ref a1])) (fun y H2=>rCat (.ref l4) y H2 Q) E:=fun H6 ua U s6 hu eU hU0 hUl hUs a1 G1 u1 g1 l4 hl4 E=>by
   have sl4:=Zh (o:=HO.lst [V.ref a1]) hl4;refine⟨b3,ua,ZaS es tl hub m F,U,ZL es tl hub m F,rfl,sl4 _ _ (u1 _ _ (s6 _ _ hB5)),sl4 _ _ (u1 _ _ hu),hU0,by omega,fun i b hi=>?_,fun H8 l8 s8 n8 xq1=>?_⟩
   ·have hb:=hUs i b hi
    have hil:=(Qd.mp hb).1;obtain⟨t,_,tb,_⟩:=fo.seq i _ b (Qb (by omega)) hb;have hbl:=hle b (Qj hb);have e:=Qb (show b<(ZaS es tl hub m F).length by omega);cases q:(ZaS es tl hub m F)[b]'(by omega)with
    |none=>
     rw[q]at e;have:=(bbare b).mp e;rw[tb]at this;cases this
    |some t'=>rw[q]at e;exact⟨t',e⟩
   ·obtain⟨tr,h8a,h8b,h8c⟩:=xq1
    have hlen:=UZ List.length h8b;have hh:=Zbh (ZaS es tl hub m F) (ZL es tl hub m F) U;rw[Qq]at hlen;refine⟨l4,l8,_,_,rfl,rfl,s8 _ _ Zd,h8a,(by rw[Qq,QP];show 1+tr.length<=_;omega),fun l9 hl9=>?_⟩;have s18:=Same.trans s15 (Same.trans s6 (Same.trans u1 (Same.trans sl4 s8)));refine q _ l9 (Same.trans s18 (Zh hl9)) (s18.none hl9) ⟨(a1,.turn hub (oneOf es tl hub m) (ZL es tl hub m F))::tr,Zd,?_,fun x hx=>?_⟩
    ·rw[Vd,h8b,eU]
     rfl
    ·rcases Qn.mp hx with rfl|hx
     ·exact Zh hl9 _ _ (s8 _ _ (sl4 _ _ g1))
     ·exact Zh hl9 _ _ (h8c x hx)
  have pcl:=(Qd.mp p1).1;refine Z3 (fun z=>?_) (fun z=>?_)
  ·have hin:ZL es tl hub m F∈frees es (ZaS es tl hub m F) (tip es hub q0) m:=(ZbK _ _).mp z
   have eU:F.take (plc tl F (ZL es tl hub m F))=JS es tl hub m F:=by unfold JS;rw[gdq,if_pos hin]
   refine⟨_,rfl,_,rfl,_,rfl,fa,_,rfl,SqL.of (s15 _ _ hF),fun ua hua=>?_⟩;rw[ZhQ];exact⟨_,rfl,_,rfl,_,rfl,rfl,fun a1 G1 u1 g1=>⟨(by show 1<=sizeLine;decide),fun l4 hl4=>⟨_,rfl,_,rfl,_,rfl,fin _ ua _ (Zh hua) Zd eU (by rw[UC];omega) (by rw[UC];omega) (fun i b hi=>by
    rw[List.getElem?_take_of_lt (by have:=(Qd.mp hi).1;rw[UC]at this;omega)]at hi;exact hi) a1 G1 u1 g1 l4 hl4 E0⟩⟩⟩
  ·have hin:¬ZL es tl hub m F∈frees es (ZaS es tl hub m F) (tip es hub q0) m:=fun y=>z ((ZbK _ _).mpr y)
   have eU:F=JS es tl hub m F:=by unfold JS;rw[gdq,if_neg hin]
   exact⟨_,rfl,_,rfl,_,rfl,_,rfl,rfl,fun a1 G1 u1 g1=>⟨(by show 1<=sizeLine;decide),fun l4 hl4=>⟨_,rfl,_,rfl,_,rfl,fin H5 fa F (Same.refl _) (s15 _ _ hF) eU fo.pos (Qe _) (fun _ _ h=>h) a1 G1 u1 g1 l4 hl4 E0⟩⟩⟩
end
def Two(es:List (Nat×Nat)):Prop:=∃col:Nat->Bool,∀e∈es,col e.1≠col e.2
inductive Alt(es:List (Nat×Nat))(tl:List (Option Nat))(u v p:Nat):Nat->Bool->Prop
 |start:Alt es tl u v p p false
 |one {x y k:Nat}:Alt es tl u v p x false->k<es.length->tl[k]?=some (some u)->At (es.getD k (0,0)) x->At (es.getD k (0,0)) y->x≠y->Alt es tl u v p y true
 |two {x y k:Nat}:Alt es tl u v p x true->k<es.length->tl[k]?=some (some v)->At (es.getD k (0,0)) x->At (es.getD k (0,0)) y->x≠y->Alt es tl u v p y false
section
variable{es:List (Nat×Nat)}{tl:List (Option Nat)}{u v p n:Nat}
theorem Zdu(hC:CleanTo es tl es.length){i j t x}(hi:i<es.length)(hj:j<es.length)(ti:tl[i]?=some (some t))(tj:tl[j]?=some (some t))(ai:At (es.getD i (0,0)) x)(aj:At (es.getD j (0,0)) x):i=j:=by
 rcases UG i j with h|h|h
 ·exact absurd ai (hC j i t h hj tj ti x aj)
 ·exact h
 ·exact absurd aj (hC i j t h hi ti tj x ai)
theorem ZdV{e}{x y z}(hx:At e x)(hy:At e y)(hz:At e z)(xy:x≠y)(xz:x≠z):y=z:=by
 rcases hx with rfl|rfl<;>rcases hy with rfl|rfl<;>rcases hz with rfl|rfl<;>first|rfl|exact absurd rfl xy|exact absurd rfl xz
theorem ZkY(hC:CleanTo es tl es.length)(hv:¬Used es tl es.length p v){x}(h:RP es tl u v p x):∃b,Alt es tl u v p x b:=by
 induction h with
 |start=>exact⟨_,.start⟩
 |@step x y k _ m s c n w=>
  obtain⟨b,A⟩:=w;by_cases e:x=y
  ·grind
  ·rcases s with t|t
   ·cases A with
    |start=>exact⟨_,.one .start m t c n e⟩
    |two o j d l i g=>exact⟨_,.one (.two o j d l i g) m t c n e⟩
    |@one z _ r o j d l i g=>
     have q:=Zdu hC m j t d c i;subst q;have:=ZdV c n l e (Ne.symm g)
     simp_all
   ·cases A with
    |start=>exact absurd ⟨k,m,t,c⟩ hv
    |one o j d l i g=>exact⟨_,.two (.one o j d l i g) m t c n e⟩
    |@two z _ r o j d l i g=>
     have q:=Zdu hC m j t d c i;subst q;have:=ZdV c n l e (Ne.symm g)
     simp_all
theorem Zf4{col:Nat->Bool}(hc:∀e∈es,col e.1≠col e.2) {k x y} (hk:k<es.length) (hx:At (es.getD k (0,0)) x) (hy:At (es.getD k (0,0)) y) (hxy:x≠y):col y= !col x:=by
 have h:=hc _ (getD_mem hk);rcases hx with rfl|rfl<;>rcases hy with rfl|rfl
 ·trivial
 ·revert h;cases col _<;>cases col _<;>simp
 ·revert h;cases col _<;>cases col _<;>simp
 ·trivial
theorem Zji{col:Nat->Bool}(hc:∀e∈es,col e.1≠col e.2) {x} {b} (h:Alt es tl u v p x b):col x=(col p !=b):=by
 induction h with
 |start=>cases col p<;>rfl
 |one _ d i g a f c=>rw[Zf4 hc d g a f,c];cases col p<;>rfl
 |_ _ d i g a f c=>rw[Zf4 hc d g a f,c];cases col p<;>rfl
theorem Zg9{f}(h:∀x,f x<=2) {b} (hb:f b<=1):∀{l},b∈l->ZB f l+1<=2*l.length
 |x::l,a=>by
  have _:=h x;have _:=Zek h l;show f x+ZB f l+1<=2*(l.length+1);rcases Qn.mp a with e|e
  ·subst e;omega
  ·have:=Zg9 h hb e
   omega
theorem ZeG{S:List _}(ok:∀e∈es,e.1<n/\e.2<n/\e.1≠e.2) (hc:CleanTo es tl es.length) (hS:S.Pairwise (·<·)) (hR:∀k,k∈S↔RT es tl u v p k) {x:Nat} (hx:x<n) (hd:deg es S x<=1):S.length+1<=n:=by
 have _:=Zbc U8 fun k a=>by
  have:=ok _ (getD_mem ((hR k).mp a).1);exact⟨QC.mpr this.1,QC.mpr this.2.1⟩
 have _:=Zg9 (fun x=>ZeD (hS.imp fun z=>Qo z) (fun k a=>⟨((hR k).mp a).1,((hR k).mp a).2.1⟩) (fun k a=>Zfi ok k ((hR k).mp a).1) hc x) hd (QC.mpr hx)
 grind
end
noncomputable def ZcW(es:List (Nat×Nat))(tl:List (Option Nat))(k m:Nat):Nat:=(frees es tl (es.getD k (0,0)).1 m).getD 0 0
noncomputable def twoT(es:List (Nat×Nat))(tl:List (Option Nat))(k m:Nat):Nat:=(frees es tl (es.getD k (0,0)).2 m).getD 0 0
open Classical in
noncomputable def put2(es:List (Nat×Nat))(tl:List (Option Nat))(k m:Nat):List Stp:=
 if 0<(both es tl (es.getD k (0,0)).1 (es.getD k (0,0)).2 m).length then[.tint k ((both es tl (es.getD k (0,0)).1 (es.getD k (0,0)).2 m).getD 0 0)]else[.turn (es.getD k (0,0)).2 (ZcW es tl k m) (twoT es tl k m),.tint k (ZcW es tl k m)]
theorem Ziz{n m k M}(ok:∀e∈es,e.1<n/\e.2<n/\e.1≠e.2) (hT:Two es) (hC:CleanTo es tl es.length) (hl:tl.length=es.length) (hk:k<es.length) (hb:tl[k]?=some none) (hM:∀x,x<n->dg es es.length x<=M) (hMm:M<=m):
  Res es tl k m n (n-1) (put2 es tl k m):=by
 have f:=ok _ (getD_mem hk);unfold put2;split
 ·rename_i h0
  have hin:=head_mem h0;generalize(both es tl _ _ m).getD 0 0=t at hin;obtain⟨t1,t2,t3⟩:=both_mem.mp hin;have c1:=Ya hC hl hk t2 t3;exact⟨⟨_,ZcH hk t1 c1,by grind,c1,⟨t,by grind⟩,fun j hj=>by grind,[],QE _,fun j hj z=>(absurd (by grind) z)⟩,by show 1<=4;decide⟩
 ·rename_i h0
  have ho:=frees_mem.mp (head_mem (Yo (m:=m) hk hb (x:=(es.getD k (0,0)).1) (.inl rfl) (hM _ f.1) hMm));rw[(show(frees es tl _ m).getD 0 0=ZcW es tl k m from rfl)]at ho;have ht:=frees_mem.mp (head_mem (Yo (m:=m) hk hb (x:=(es.getD k (0,0)).2) (.inr rfl) (hM _ f.2.1) hMm));rw[(show(frees es tl _ m).getD 0 0=twoT es tl k m from rfl)]at ht;have hne:ZcW es tl k m≠twoT es tl k m:=fun z=>ht.2 (by rw[<-z];exact(Qv fun z=>(show∀t,t<m->¬Used es tl es.length (es.getD k (0,0)).1 t->¬Used es tl es.length (es.getD k (0,0)).2 t->False from fun t a b c=>h0 (QZ (both_mem.mpr ⟨a,b,c⟩))) _ ho.1 ho.2 z));generalize ha:(es.getD k (0,0)).1=a at*;generalize hb':(es.getD k (0,0)).2=b at*;generalize ho':ZcW es tl k m=o at*;generalize ht':twoT es tl k m=t at*;obtain⟨S,hS,hR⟩:=ZaO es tl o t b;obtain⟨col,hcol⟩:=hT;have hna:¬RP es tl o t b a:=fun z=>by
   obtain⟨bb,A⟩:=ZkY hC ht.2 z;have h1:=Zji hcol A;have h2:=hcol _ (getD_mem hk);rw[ha,hb']at h2;cases A with
   |start=>exact f.2.2 rfl
   |one _ a1 a2 _ a4 _=>exact ho.2 ⟨_,a1,a2,a4⟩
   |two _ _ _ _ _ _=>simp_all
  have c1:=JF hne hR hC;have l1:(trn tl o t S).length=es.length:=by rw[Je];exact hl
  have nb:=fun z=>by
   have h2:=(YT hne hR (x:=b) .start (t:=o) (.inl rfl)).mp z;rw[(show swt o t o=t by unfold swt;rw[if_pos rfl])]at h2;exact ht.2 h2
  have c2:=Ya c1 l1 hk (t:=o) (by rw[ha];exact(fun z=>ho.2 ((Jx hR hna).mp z))) (by rw[hb'];exact nb);refine⟨⟨_,.cons (s:= .turn b o t) ⟨f.2.1,ho.1,ht.1,hne⟩ ⟨S,hS,hR,rfl⟩ c1 (ZcH hk ho.1 c2),by rw[QT];exact l1,c2,⟨o,by simp_all⟩,fun j hj=>?_,S,?_,fun j hj z=>?_⟩,by show 2<=4;decide⟩
  ·rw[Qy,if_neg (fun z=>hj z.symm)]
   exact Ja (fun j hj=>((hR j).mp hj).2.1)
  ·have:=ZeG ok hC hS hR f.2.1 (Zbl hS hR ok hC (.inr ht.2))
   omega
  ·apply Qv
   intro hjS;apply z;rw[Qy,if_neg (fun z=>hj z.symm),Yk hjS]
theorem Zd9{col:Nat->Bool}{r:List _}{m}(h:∀k,k<2*m+1->col (r.getD k 0)= !col (r.getD (if k=0 then 2*m else k-1) 0)):False:=by
 have a:∀k,k<=2*m->col (r.getD k 0)=(col (r.getD 0 0) !=decide (k%2=1)):=by
  intro k
  induction k with
  |zero=>intro _;cases col _<;>rfl
  |_ k d=>
   intro _;have c:=h (k+1) (by omega);rw[if_neg (by simp),Nat.add_sub_cancel]at c;rw[c,d (by omega)];have:k%2=0\/k%2=1:=by omega
   rcases this with e|e
   ·rw[QX (by omega),Qu (show(k+1)%2=1 by omega)];cases col _<;>rfl
   ·rw[Qu e,QX (by omega)];cases col _<;>rfl
 have b:=h 0 (by simp);rw[if_pos rfl,a _ (Qe _),QX (by simp)]at b
 revert b
 cases col _<;>simp
end My
namespace Sd
def put{α:Type}(f:Nat->α)(k:Nat)(v:α):Nat->α:=fun i=>if i=k then v else f i
theorem put_same{α}(f)(k)(v:α):put f k v k=v:=by unfold put;rw[if_pos rfl]
theorem put_ne{α}(f){k i}(v:α)(h:i≠k):put f k v i=f i:=by unfold put;rw[if_neg h]
def tint(d:Nat):Int:=((d%2:Nat))
theorem ZfF(d):tint (d+1)=1-tint d:=by unfold tint;omega
theorem Zil{a b}(h:tint a=tint b):a%2=b%2:=by unfold tint at h;omega
structure Zjl(adjL:Nat->List Nat)(V0:Nat->Prop)(row:Nat->Option Int):Prop where
 vis:∀x,row x≠none↔V0 x
 cl:∀x,V0 x->∀y∈adjL x,V0 y/\row y≠row x
structure BF(adjL:Nat->List Nat)(V0:Nat->Prop)(row0:Nat->Option Int)(n root:Nat)(row:Nat->Option Int)(above:Nat->Option Nat)(wt:List Nat)(pl:Nat)(dep:Nat->Nat):Prop where
 sym:∀x y,y∈adjL x->x∈adjL y
 bnd:∀x y,y∈adjL x->y<n
 shut:Zjl adjL V0 row0
 old:∀x,V0 x->row x=row0 x
 nd:wt.Nodup
 lt:∀x∈wt,x<n
 hd:wt[0]?=some root
 vis:∀x,row x≠none↔V0 x\/x∈wt
 disj:∀x∈wt,¬V0 x
 col:∀x∈wt,row x=some (tint (dep x))
 d0:dep root=0
 par:∀x∈wt,x≠root->∃y,y∈wt/\above x=some y/\x∈adjL y/\dep x=dep y+1
 mono:∀(i j x y:Nat),i<=j->wt[i]?=some x->wt[j]?=some y->dep x<=dep y
 near:∀(i x p:Nat),wt[pl]?=some p->wt[i]?=some x->dep x<=dep p+1
 done:∀(i x:Nat),i<pl->wt[i]?=some x->∀y∈adjL x,y∈wt/\row y≠row x/\dep y<=dep x+1
def Part(adjL:Nat->List Nat)(row:Nat->Option Int)(wt:List Nat)(dep:Nat->Nat)(p k:Nat):Prop:=∀y∈(adjL p).take k,y∈wt/\row y≠row p/\dep y<=dep p+1
section
variable{adjL:Nat->List Nat}{V0:Nat->Prop}{row0 row:Nat->Option Int}{n root:Nat}{above:Nat->Option Nat}{wt:List Nat}{pl:Nat}{dep:Nat->Nat}
theorem BF.start(sym:∀x y,y∈adjL x->x∈adjL y) (bnd:∀x y,y∈adjL x->y<n) (S:Zjl adjL V0 row0) (hr:row0 root=none) (hn:root<n):BF adjL V0 row0 n root (put row0 root (some 0)) above [root] 0 (fun _=>0):=by
 have a:=fun h=>(S.vis _).mpr h hr;refine⟨sym,bnd,S,fun x h=>put_ne _ _ (fun z=>a (z▸h)),QN.mpr ⟨Qt,Q4⟩,fun x h=>by simp_all,rfl,fun x=>?_,fun x h=>by simp_all,fun x h=>by rw[Qf.mp h,put_same];rfl,rfl,fun x h z=>absurd (Qf.mp h) z,fun _ _ _ _ _ _ _=>Qe _,fun _ _ _ _ _=>QE _,fun i x h=>absurd h (QK _)⟩;by_cases e:x=root
 ·subst e
  rw[put_same];exact⟨fun _=> .inr (.head _),fun _ z=>by cases z⟩
 ·rw[put_ne _ _ e,S.vis x]
  simp_all
theorem BF.known(B:BF adjL V0 row0 n root row above wt pl dep){p y}(hp:p∈wt)(hy:y∈adjL p)(h:row y≠none):y∈wt:=by
 rcases(B.vis y).mp h with z|z
 ·exact absurd (B.shut.cl y z p (B.sym p y hy)).1 (B.disj p hp)
 ·exact z
theorem BF.skip(B:BF adjL V0 row0 n root row above wt pl dep){p y}(hp:wt[pl]?=some p)(hy:y∈adjL p)(h:row y≠none)(hne:row y≠row p):y∈wt/\row y≠row p/\dep y<=dep p+1:=by
 have a:=B.known (Qj hp) hy h;obtain⟨i,_,e⟩:=QW a;exact⟨a,hne,B.near i y p hp (by simp_all)⟩
theorem BF.clash(B:BF adjL V0 row0 n root row above wt pl dep){p y}(hp:wt[pl]?=some p)(hy:y∈adjL p)(h:row y=row p):y∈wt/\dep y=dep p:=by
 have a:=Qj hp;have f:=B.col p a;have c:=B.known a hy (by grind);refine⟨c,?_⟩;obtain⟨i,_,e⟩:=QW c;have b:wt[i]?=some y:=by grind
 have _:=B.near i y p hp b;have _:dep y%2=dep p%2:=by
  rw[B.col y c,f]at h;exact Zil (Option.some.inj h)
 by_cases d:i<pl
 ·exact absurd h.symm (B.done i y d b p (B.sym p y hy)).2.1
 ·have _:=B.mono pl i p y (by omega) hp b
  omega
theorem BF.add(B:BF adjL V0 row0 n root row above wt pl dep){p y}(hp:wt[pl]?=some p)(hy:y∈adjL p)(h:row y=none):
  BF adjL V0 row0 n root (put row y (some (1-tint (dep p)))) (put above y (some p)) (wt++[y]) pl (put dep y (dep p+1)):=by
 have k:=Qj hp;have s:=fun z=>(B.vis y).mpr (.inl z) h;have o:∀x,x∈wt->x≠y:=fun x c z=>(fun z=>(B.vis y).mpr (.inr z) h) (z▸c);have f:∀x,x∈wt->put _ y (dep p+1) x=dep x:=fun x c=>put_ne _ _ (o x c);have I:=(Qd.mp hp).1;have d:∀(i x),(wt++[y])[i]?=some x->(i<wt.length/\wt[i]?=some x)\/(i=wt.length/\x=y):=fun i x e=>by
  by_cases w:i<wt.length
  ·rw[QJ w]at e
   exact .inl ⟨w,e⟩
  ·rw[Q0 (by omega)]at e
   have S:=(Qd.mp e).1;rw[QF]at S;have:i=wt.length:=by omega
   subst this;rw[Vh]at e;cases e;exact .inr ⟨rfl,rfl⟩
 have t:∀q,(wt++[y])[pl]?=some q->q=p:=fun q e=>by
  rw[QJ I,hp]at e;cases e;rfl
 refine⟨B.sym,B.bnd,B.shut,fun x c=>?_,?_,fun x c=>?_,?_,fun x=>?_,fun x c=>?_,fun x c=>?_,?_,fun x c F=>?_,fun i j x z E A m=>?_,fun i x q A m=>?_,fun i x w e z L=>?_⟩
 ·rw[put_ne _ _ (fun z=>s (by rw[<-z];exact c))]
  exact B.old x c
 ·rw[Ud]
  exact⟨B.nd,QN.mpr ⟨Qt,Q4⟩,fun a P b O z=>o a P (z.trans (Qf.mp O))⟩
 ·rcases Qw.mp c with z|z
  ·exact B.lt x z
  ·rw[Qf.mp z]
   exact B.bnd p y hy
 ·rw[QJ (by omega)]
  exact B.hd
 ·by_cases e:x=y
  ·subst e
   rw[put_same];exact⟨fun _=> .inr (Qm _ (.head _)),fun _ z=>by cases z⟩
  ·rw[put_ne _ _ e,B.vis x]
   refine⟨fun z=>z.imp id fun z=>Qz _ z,fun z=>z.imp id fun z=>?_⟩;rcases Qw.mp z with z|z
   ·exact z
   ·exact absurd (Qf.mp z) e
 ·rcases Qw.mp c with z|z
  ·exact B.disj x z
  ·rw[Qf.mp z]
   exact s
 ·rcases Qw.mp c with z|z
  ·rw[put_ne _ _ (o x z),f x z]
   exact B.col x z
  ·rw[Qf.mp z,put_same,put_same,ZfF]
 ·rw[f _ (Qj B.hd)]
  exact B.d0
 ·rcases Qw.mp c with z|z
  ·obtain⟨q,J,K,N,R⟩:=B.par x z F
   exact⟨q,Qz _ J,by rw[put_ne _ _ (o x z)];exact K,N,by rw[f x z,f q J];exact R⟩
  ·rw[Qf.mp z]
   exact⟨p,Qz _ k,put_same _ _ _,hy,by rw[put_same,f p k]⟩
 ·rcases d i x A with⟨u,r⟩|⟨u,r⟩
  ·have g:=Qj r
   rw[f x g];rcases d j z m with⟨D,l⟩|⟨D,l⟩
   ·rw[f z (Qj l)]
    exact B.mono i j x z E r l
   ·rw[l,put_same]
    exact B.near i x p hp r
  ·rcases d j z m with⟨D,l⟩|⟨D,l⟩
   ·omega
   ·rw[r,l]
    exact Qe _
 ·rw[t q A,f p k]
  rcases d i x m with⟨u,m⟩|⟨u,rfl⟩
  ·rw[f x (Qj m)]
   exact B.near i x p hp m
  ·rw[put_same]
   exact Qe _
 ·rcases d i x e with⟨u,e⟩|⟨u,_⟩
  ·have g:=Qj e
   obtain⟨C,Q,M⟩:=B.done i x w e z L;refine⟨Qz _ C,?_,?_⟩
   ·rw[put_ne _ _ (o z C),put_ne _ _ (o x g)]
    exact Q
   ·rw[f z C,f x g]
    exact M
  ·omega
theorem Part.add(B:BF adjL V0 row0 n root row above wt pl dep){p y k}(hp:wt[pl]?=some p)(hk:(adjL p)[k]?=some y)(h:row y=none)(A:Part adjL row wt dep p k):
  Part adjL (put row y (some (1-tint (dep p)))) (wt++[y]) (put dep y (dep p+1)) p (k+1):=by
 have a:=Qj hp;have c:∀x,x∈wt->x≠y:=fun x e z=>(fun z=>(B.vis y).mpr (.inr z) h) (z▸e);intro z b;rw[Ue,hk]at b;rw[put_ne _ _ (c p a),put_ne _ _ (c p a)];rcases Qw.mp b with b|b
 ·obtain⟨d,_,_⟩:=A z b
  rw[put_ne _ _ (c z d),put_ne _ _ (c z d)]
  simp_all
 ·rw[Qf.mp b,put_same,put_same]
  refine⟨Qm _ (.head _),?_,Qe _⟩;rw[B.col p a]
  grind
theorem Part.skip(B:BF adjL V0 row0 n root row above wt pl dep){p y k}(hp:wt[pl]?=some p)(hk:(adjL p)[k]?=some y)(h:row y≠none)(hne:row y≠row p)(A:Part adjL row wt dep p k):Part adjL row wt dep p (k+1):=by
 intro z a;rw[Ue,hk]at a;rcases Qw.mp a with a|a
 ·exact A z a
 ·rw[Qf.mp a]
  exact B.skip hp (Qj hk) h hne
theorem BF.next(B:BF adjL V0 row0 n root row above wt pl dep){p}(hp:wt[pl]?=some p)(A:Part adjL row wt dep p (adjL p).length):BF adjL V0 row0 n root row above wt (pl+1) dep:=by
 refine{B with near:=fun i x q a c=>?_,done:=fun i x _ e y b=>?_}
 ·have _:=B.near i x p hp c
  have _:=B.mono pl _ p q (by simp) hp a;omega
 ·by_cases h:i<pl
  ·exact B.done i x h e y b
  ·have:i=pl:=by omega
   subst this;rw[hp]at e;cases e;exact A y (by simp_all)
theorem BF.finish(B:BF adjL V0 row0 n root row above wt pl dep)(hl:wt.length<=pl):Zjl adjL (fun x=>V0 x\/x∈wt) row:=by
 refine⟨B.vis,fun x a y d=>?_⟩;rcases a with a|a
 ·obtain⟨b,c⟩:=B.shut.cl x a y d
  exact⟨.inl b,by rw[B.old x a,B.old y b];exact c⟩
 ·obtain⟨i,_,e⟩:=QW a
  obtain⟨b,c,_⟩:=B.done i x (by omega) (by grind) y d;exact⟨.inr b,c⟩
theorem BF.zero(B:BF adjL V0 row0 n root row above wt pl dep){x}(hx:x∈wt)(h:dep x=0):x=root:=by
 by_cases e:x=root
 ·exact e
 ·obtain⟨y,_,_,_,_⟩:=B.par x hx e
  omega
end
def it(par:Nat->Nat)(x:Nat):Nat->Nat
 |0=>x
 |i+1=>par (it par x i)
def parOf(above:Nat->Option Nat)(x:Nat):Nat:=(above x).getD 0
section
variable{adjL:Nat->List Nat}{V0:Nat->Prop}{row0 row:Nat->Option Int}{n root:Nat}{above:Nat->Option Nat}{wt:List Nat}{pl:Nat}{dep:Nat->Nat}
theorem BF.up(B:BF adjL V0 row0 n root row above wt pl dep){x}(hx:x∈wt):∀i,i<=dep x->it (parOf above) x i∈wt/\dep (it (parOf above) x i)+i=dep x
 |0,_=>⟨hx,rfl⟩
 |i+1,h=>by
  obtain⟨b,c⟩:=B.up hx i (by omega);obtain⟨y,_,a,_,_⟩:=B.par _ b (show it _ x i≠root from fun z=>by rw[z,B.d0]at c;omega);rw[(show it _ x _=y by show(above _).getD 0=y;rw[a];rfl)]
  grind
theorem BF.upTie(B:BF adjL V0 row0 n root row above wt pl dep){x}(hx:x∈wt)(i)(h:i<dep x):above (it (parOf above) x i)=some (it (parOf above) x (i+1))/\it (parOf above) x i∈adjL (it (parOf above) x (i+1)):=by
 obtain⟨d,b⟩:=B.up hx i (by omega);obtain⟨y,_,a,c,_⟩:=B.par _ d (show it _ x i≠root from fun z=>by rw[z,B.d0]at b;omega);rw[(show it _ x (i+1)=y by show(above _).getD 0=y;rw[a];rfl)];exact⟨a,c⟩
theorem BF.upEnd(B:BF adjL V0 row0 n root row above wt pl dep){x}(hx:x∈wt):it (parOf above) x (dep x)=root:=by
 obtain⟨a,_⟩:=B.up hx _ (Qe _);exact B.zero a (by omega)
def ring(par:Nat->Nat)(a b m:Nat):List Nat:=(List.range (m+1)).map (it par a)++((List.range m).map (it par b)).reverse
theorem ring_len(par)(a b m):(ring par a b m).length=2*m+1:=by
 unfold ring
 grind
theorem Zd1(par)(a b m k)(h:k<2*m+1):(ring par a b m).getD k 0=if k<=m then it par a k else it par b (2*m-k):=by
 unfold ring;rw[Qi];by_cases c:k<=m
 ·rw[if_pos c,QJ (by (simp;omega)),Qx,List.getElem?_range (by omega)]
  rfl
 ·rw[if_neg c,Q0 (by grind),List.getElem?_reverse (by (simp;omega)),Qx,Qq,Qq,U1,U1,List.getElem?_range (by omega)]
  grind
theorem BF.ring_ok(B:BF adjL V0 row0 n root row above wt pl dep){a b m}(ha:a∈wt)(hb:b∈wt)(hd:dep b=dep a)(hab:a≠b)(tie:b∈adjL a)(hm:m<=dep a)(meet:it (parOf above) a m=it (parOf above) b m)(first:∀i,i<m->it (parOf above) a i≠it (parOf above) b i):
  1<=m/\(∀x∈ring (parOf above) a b m,x<n)/\(ring (parOf above) a b m).Nodup/\∀k,k<2*m+1->(ring (parOf above) a b m).getD k 0∈adjL ((ring (parOf above) a b m).getD (if k=0 then 2*m else k-1) 0):=by
 have r:1<=m:=by
  cases m with
  |zero=>exact absurd meet hab
  |_ m=>omega
 refine⟨r,fun x l=>?_,?_,fun k q=>?_⟩
 ·rcases Qw.mp l with h|h
  ·obtain⟨i,c,rfl⟩:=QQ.mp h
   rw[QC]at c;exact B.lt _ (B.up ha i (by omega)).1
  ·rw[List.mem_reverse]at h
   obtain⟨i,c,rfl⟩:=QQ.mp h;rw[QC]at c;exact B.lt _ (B.up hb i (by omega)).1
 ·unfold ring
  rw[Ud];refine⟨?_,?_,fun x l y p e=>?_⟩
  ·rw[List.Nodup,Ul]
   refine Uz (fun{i j} c f h=>?_) (U8 (n:=m+1));rw[QC]at c f;intro z;have d:=(B.up ha i (by omega)).2;have g:=(B.up ha j (by omega)).2;rw[z]at d;exact h (by omega)
  ·rw[List.Nodup,List.pairwise_reverse,Ul]
   refine Uz (fun{i j} c f h=>?_) (U8 (n:=m));rw[QC]at c f;intro z;have d:=(B.up hb i (by omega)).2;have g:=(B.up hb j (by omega)).2;rw[<-z]at d;exact h (by omega)
  ·obtain⟨i,c,rfl⟩:=QQ.mp l
   rw[List.mem_reverse]at p;obtain⟨j,f,rfl⟩:=QQ.mp p;rw[QC]at c f;have d:=(B.up ha i (by omega)).2;have g:=(B.up hb j (by omega)).2;rw[e]at d;have:i=j:=by omega
   subst this;exact first i f e
 ·rw[Zd1 _ _ _ _ _ q,Zd1 _ _ _ _ _ (by split<;>omega)]
  by_cases o:k=0
  ·subst o
   rw[if_pos rfl,if_pos (QE _),if_neg (by omega),Vh];exact B.sym _ _ tie
  ·rw[if_neg o]
   by_cases d:k<=m
   ·rw[if_pos d,if_pos (by omega)]
    have h:=(B.upTie ha (k-1) (by omega)).2;rw[show k-1+1=k by omega]at h;exact B.sym _ _ h
   ·rw[if_neg d]
    have h:=(B.upTie hb (2*m-k) (by omega)).2;by_cases g:k-1<=m
    ·grind
    ·rw[if_neg g]
     rw[show 2*m-k+1=2*m-(k-1) by omega]at h;exact h
end
def Znc(adjL:Nat->List Nat)(x y:Nat):Prop:=∀L:Nat->Nat,(∀u v,v∈adjL u->L u=L v)->L x=L y
structure Out(adjL:Nat->List Nat)(V:Nat->Prop)(row:Nat->Option Int)(rt:Nat->Nat)(r:Nat):Prop where
 shut:Zjl adjL V row
 all:∀x,x<r->V x
 bit:∀x,V x->row x=some 0\/row x=some 1
 zero:∀x,V x->row (rt x)=some 0
 low:∀x,V x->rt x<=x
 conn:∀x,V x->Znc adjL x (rt x)
 next:∀x,V x->∀y∈adjL x,rt y=rt x
section
variable{adjL:Nat->List Nat}{V0:Nat->Prop}{row0 row:Nat->Option Int}{n root:Nat}{above:Nat->Option Nat}{wt:List Nat}{pl:Nat}{dep:Nat->Nat}{rt:Nat->Nat}
theorem Out.start:Out adjL (fun _=>False) (fun _=>none) (fun x=>x) 0:=
 ⟨⟨fun x=>⟨fun h=>h rfl,fun h=>h.elim⟩,fun x h=>h.elim⟩,fun x h=>absurd h (QK _),fun x h=>h.elim,fun x h=>h.elim,fun x h=>h.elim,fun x h=>h.elim,fun x h=>h.elim⟩
theorem Out.skip(O:Out adjL V0 row rt root)(h:row root≠none):Out adjL V0 row rt (root+1):=by
 refine{O with all:=fun x _=>?_};by_cases e:x=root
 ·rw[e]
  exact(O.shut.vis _).mp h
 ·exact O.all x (by omega)
theorem BF.conn(B:BF adjL V0 row0 n root row above wt pl dep){x}(hx:x∈wt):Znc adjL x root:=by
 intro L a;have h:∀i,i<=dep x->L x=L (it (parOf above) x i):=by
  intro i
  induction i with
  |zero=>intro _;rfl
  |_ i b=>
   intro _;rw[b (by omega)];exact(a _ _ (B.upTie hx i (by assumption)).2).symm
 rw[h _ (Qe _),B.upEnd hx]
theorem Out.walk(O:Out adjL V0 row0 rt root)(B:BF adjL V0 row0 n root row above wt pl dep)(hl:wt.length<=pl):∃rt',Out adjL (fun x=>V0 x\/x∈wt) row rt' (root+1):=by
 have f:=Qj B.hd;have b:=fun x h z=>B.disj x z h;have S:=B.finish hl;refine⟨fun x=>if x∈wt then root else rt x,S,fun x a=>?_,fun x a=>?_,fun x a=>?_,fun x a=>?_,fun x a=>?_,fun x a y c=>?_⟩
 ·by_cases e:x=root
  ·rw[e];exact .inr f
  ·exact .inl (O.all x (by omega))
 ·rcases a with a|a
  ·rw[B.old x a]
   exact O.bit x a
  ·rw[B.col x a]
   unfold tint
   grind
 ·rcases a with a|a
  ·skip
   rw[if_neg (b x a)];have h:=O.zero x a;rw[B.old _ ((O.shut.vis _).mp (by rw[h];intro z;cases z))];exact h
  ·skip
   rw[if_pos a,B.col _ f,B.d0];rfl
 ·rcases a with a|a
  ·skip
   rw[if_neg (b x a)];exact O.low x a
  ·skip
   rw[if_pos a];by_cases h:x<root
   ·exact absurd (O.all x h) (B.disj x a)
   ·omega
 ·rcases a with a|a
  ·skip
   rw[if_neg (b x a)];exact O.conn x a
  ·skip
   rw[if_pos a];exact B.conn a
 ·rcases a with a|a
  ·rw[if_neg (b x a),if_neg (b y ((O.shut.cl x a y c).1))]
   exact O.next x a y c
  ·rw[if_pos a,if_pos (B.known a c ((S.vis y).mpr ((S.cl x (.inr a) y c).1)))]
end
structure Zdl where
 clash:Option (Nat×Nat)
 row:Nat->Option Int
 above:Nat->Option Nat
def goN(p:Nat)(k:(Nat->Option Int)->(Nat->Option Nat)->List Nat->Zdl):List Nat->(Nat->Option Int)->(Nat->Option Nat)->List Nat->Zdl
 |[],r,a,w=>k r a w
 |y::ys,r,a,w=>if r y=none then goN p k ys (put r y (some (1-(r p).getD 0))) (put a y (some p)) (w++[y])else if r y=r p then⟨some (p,y),r,a⟩else goN p k ys r a w
def goW(adjL:Nat->List Nat):Nat->Nat->(Nat->Option Int)->(Nat->Option Nat)->List Nat->Zdl
 |0,_,r,a,_=>⟨none,r,a⟩
 |f+1,pl,r,a,w=>match w[pl]? with
  |none=>⟨none,r,a⟩
  |some p=>goN p (goW adjL f (pl+1)) (adjL p) r a w
theorem ZiO(adjL)(f pl)(r)(a)(w)(h:w.length<=pl):goW adjL f pl r a w=⟨none,r,a⟩:=by
 cases f with
 |zero=>rfl
 |_ f=>unfold goW;simp_all
theorem Zh2(adjL)(f pl p)(r)(a)(w)(h:w[pl]?=some p):goW adjL (f+1) pl r a w=goN p (goW adjL f (pl+1)) (adjL p) r a w:=by
 show(match w[pl]? with|none=>(⟨_,r,a⟩:Zdl)|some p=>goN p _ _ r a w)=_
 rw[h]
end Sd
namespace Sd
open PySem L2 My
theorem JK:∀(n)(l:List _),l.Nodup->(∀x∈l,x<n)->l.length<=n
 |0,l,_,h=>by
  cases l with
  |nil=>exact Qe _
  |_ x l=>exact absurd (h x (.head _)) (QK _)
 |n+1,l,a,h=>by
  have _:=JK n _ (a.erase n) fun x _=>by
   grind
  grind
def ov(f:Nat->Option Int)(i:Nat):V:=match f i with|none=> .non|some v=> .int v
def ol(f:Nat->Option Int)(n:Nat):List V:=(List.range n).map (ov f)
def up1(f:Nat->Option Nat)(i:Nat):Option Int:=(f i).map fun x:Nat=>x
theorem ZaE(f)(n):(ol f n).length=n:=by unfold ol;grind
theorem JW(f){n k}(h:k<n):(ol f n)[k]?=some (ov f k):=by
 unfold ol
 simp_all
theorem Ze2(f)(n k)(v):(ol f n).set k (.int v)=ol (put f k (some v)) n:=by
 apply List.ext_getElem?;intro i;by_cases a:i<n
 ·rw[JW _ a,Qy]
  unfold ov;by_cases e:k=i
  ·subst e
   rw[if_pos rfl,if_pos (by rw[ZaE];exact a),put_same]
  ·rw[if_neg e,JW _ a,put_ne _ _ (fun z=>e z.symm)]
   rfl
 ·rw[Ut (by rw[QT,ZaE];omega),Ut (by rw[ZaE];omega)]
theorem Zij(f)(k p):up1 (put f k (some p))=put (up1 f) k (some p):=by
 funext i
 unfold up1 put;split<;>rfl
theorem ov_none{f}{i}:ov f i= .non↔f i=none:=by
 unfold ov
 grind
def nl(l:List Nat):List V:=l.map fun x:Nat=>V.int x
theorem nl_get{l}{i x:Nat}(h:l[i]?=some x):(nl l)[i]?=some (.int x):=by unfold nl;simp_all
theorem Zy(l):(nl l).length=l.length:=by unfold nl;rw[Qq]
structure Zdm(H:Hp)(Ta:Addr)(tl:List Addr)(adjL:Nat->List Nat)(n:Nat):Prop where
 top:H Ta=some (.lst (tl.map V.ref))
 len:tl.length=n
 row:∀(i:Nat) a,tl[i]?=some a->H a=some (.lst (nl (adjL i)))
def Sm2(x y:Addr)(H H':Hp):Prop:=∀b o,H b=some o->b≠x->b≠y->H' b=some o
structure SpSt(H0 H:Hp)(Ra Aa Wa:Addr)(n:Nat)(row:Nat->Option Int)(above:Nat->Option Nat)(wt:List Nat):Prop where
 r:H Ra=some (.lst (ol row n))
 a:H Aa=some (.lst (ol (up1 above) n))
 w:H Wa=some (.lst (nl wt))
 s:Sm2 Ra Aa H0 H
theorem SpSt.same{H0 H H'}{Ra Aa Wa}{n}{row}{above}{wt}(S:SpSt H0 H Ra Aa Wa n row above wt)(h:Same H H'):SpSt H0 H' Ra Aa Wa n row above wt:=
 ⟨h _ _ S.r,h _ _ S.a,h _ _ S.w,fun b o e c d=>h _ _ (S.s b o e c d)⟩
section
variable{P:Program}{w:World}{K:PySem.W.Frag}{mg:Str->Option Value}{base:Heap}{Pt c:Addr}
abbrev sSpr:Stmt:=top 52
abbrev ZnU:List Str:=["tied","row","above","root","waiting","place","point","near"]
inductive spSpr(vs:List V)(H:Hp)(Q:VK)(_z3:XK):Prop
 |mk (Ta Ra Aa:Addr) (tl:List Addr) (adjL:Nat->List Nat) (V0:Nat->Prop) (row0:Nat->Option Int) (above:Nat->Option Nat) (n root:Nat) (_:vs=[.ref Ta,.ref Ra,.ref Aa,.int (root:Int)]) (_:Zdm H Ta tl adjL n) (_:H Ra=some (.lst (ol (put row0 root (some 0)) n))) (_:H Aa=some (.lst (ol (up1 above) n))) (_:Ra≠Aa) (_:(∀a∈Ta::tl,a≠Ra/\a≠Aa)) (_:n<=60) (_:BF adjL V0 row0 n root (put row0 root (some 0)) above [root] 0 (fun _=>0)) (_:∀(H')(row')(above')(wt)(pl)(dep),Sm2 Ra Aa H H'->H' Ra=some (.lst (ol row' n))->H' Aa=some (.lst (ol (up1 above') n))->BF adjL V0 row0 n root row' above' wt pl dep->(wt.length<=pl->goW adjL n 0 (put row0 root (some 0)) above [root]=⟨none,row',above'⟩->Q .non H')/\∀(t)(p y),goW adjL n 0 (put row0 root (some 0)) above [root]=⟨some (p,y),row',above'⟩->H' t=some (.tup [.int p,.int y])->p∈wt->y∈wt->y∈adjL p->dep y=dep p->Q (.ref t) H')
theorem scSpr:Zm ZnU ["tied","row","above","root"] (Zg sSpr):=⟨rfl,rfl,rfl,by decide+kernel,rfl,by decide+kernel,by decide+kernel⟩
theorem ok_spr{f}{fd}(F:Fun K "spread" "spread" sSpr f fd)(T:Bi mg):FnOk P w K mg base CX0 1 f fd ["tied","row","above","root"] spSpr:=by
 refine F.ok scSpr (fun vs H Q E h=>?_) (fun cdv A outer s H vs Q E hr h=>?_)
 ·obtain⟨Ta,Ra,Aa,tl,g,V0,row0,d,n,j,rfl,_⟩:=h
  rfl
 ·obtain⟨Ta,Ra,Aa,tl,g,V0,row0,above0,n,j,rfl,TA,hR0,hA0,hRA,hne,h60,B0,q⟩:=h
  refine⟨_,Zb (Zl (i:=4) scSpr.nd rfl (Or.inl rfl) (ZI (Zc (pv 3) Za)))
   (Zb (Zl (i:=5) scSpr.nd rfl (Or.inl rfl) Ze)
   (Zb (J6 QD (Zp ZaX (pv 5) (Zo Zr rfl T.len Yv (Zc (pv 4) Za)) (Zx _))
    (Zb (Zl (i:=6) scSpr.nd rfl (Or.inl rfl) (Zk Zz (pv 4) (pv 5) (fun _ _=>rfl)))
    (Zb (Zkg (i:=5) scSpr.nd rfl (Or.inl rfl) Ze Zhr)
    (Zf (ZG QD rfl (JI (Zk Zz (pv 0) (pv 6) (fun _ _=>rfl))) (Zu (i:=7) scSpr.nd rfl (Or.inl rfl))
     (Zf (Z2 (Zp ZbA (Zk Zz (pv 1) (pv 7) (fun _ _=>rfl)) ZH (Zx _))
      (Zb (JU (Zt Jk Ze (Zk Zz (pv 1) (pv 6) (fun _ _=>rfl))) (JV (pv 1) (pv 7) Yl))
      (Zb (JU (pv 6) (JV (pv 2) (pv 7) Yl))
      (Zf (ZF (Y6 QB QG QH ZC (pv 4) (Zc (pv 7) Za))))))
      (Zf (Z2 (Zp ZK (Zk Zz (pv 1) (pv 7) (fun _ _=>rfl)) (Zk Zz (pv 1) (pv 6) (fun _ _=>rfl)) (Zx _)) (Zf (Zn (Z1 (Zc (pv 6) (Zc (pv 7) Za))))) Zw))))))))
   ) (Zf (Zn ZH)))),_,rfl,(by show 1<=sizeLine;decide),fun Wa hW=>?_⟩
  have nR:Wa≠Ra:=fun z=>by rw[z,hR0]at hW;cases hW
  have nA:Wa≠Aa:=fun z=>by rw[z,hA0]at hW;cases hW
  have tied:∀{H'},Sm2 Ra Aa H H'->Zdm H' Ta tl g n:=fun{H'} s'=>⟨s' _ _ TA.top (hne Ta (.head _)).1 (hne Ta (.head _)).2,TA.len,fun i a e=>s' _ _ (TA.row i a e) (hne a (.tail _ (Qj e))).1 (hne a (.tail _ (Qj e))).2⟩;refine⟨fun m σ H'=>E7 fun row d wt pl dep v6 v7=>m=n-pl/\σ=[some (.ref Ta),some (.ref Ra),some (.ref Aa),some (.int j),some (.ref Wa),some (.int ((pl:Nat))),v6,v7]/\SpSt H H' Ra Aa Wa n row d wt/\BF g V0 row0 n j row d wt pl dep/\goW g (n-pl) pl row d wt=goW g n 0 (put row0 j (some 0)) above0 [j],
   ⟨_,_,_,_,0,_,none,none,rfl,rfl,(show SpSt H (upd H Wa (.lst [.int j])) Ra Aa Wa n (put row0 j (some 0)) above0 [j]from⟨by rw[Zi (Ne.symm nR)];exact hR0,by rw[Zi (Ne.symm nA)];exact hA0,by rw[Zd];rfl,fun b o e _ _=>Zh hW b o e⟩),B0,rfl⟩,?_⟩
  rintro m σ H' ⟨row,d,wt,pl,dep,v6,v7,rfl,rfl,st,B,hG⟩;refine⟨_,rfl,_,rfl,Wa,_,rfl,.inl (SqL.of st.w),_,_,rfl,rfl,_,rfl,?_⟩;have hwn:wt.length<=n:=JK n wt B.nd B.lt;refine Z3 (fun hlt=>?_) (fun hlt=>?_)
  ·have hlt':pl<wt.length:=by
    have:=Qr hlt;rw[Zy]at this;omega
   refine⟨fun σ' H'=>∃m',m'<n-pl/\E7 fun row d wt pl dep v6 v7=>m'=n-pl/\σ'=[some (.ref Ta),some (.ref Ra),some (.ref Aa),some (.int j),some (.ref Wa),some (.int ((pl:Nat))),v6,v7]/\SpSt H H' Ra Aa Wa n row d wt/\BF g V0 row0 n j row d wt pl dep/\goW g (n-pl) pl row d wt=goW g n 0 (put row0 j (some 0)) above0 [j],fun _ _ h=>h,?_⟩;have hp:wt[pl]?=some wt[pl]:=Qb hlt';generalize hpe:wt[pl]=p at hp;have hpn:p<n:=B.lt p (Qj hp);have hpt:p<tl.length:=by rw[TA.len];exact hpn
   have TA1:=tied st.s;refine⟨_,rfl,_,rfl,Wa,_,_,_,rfl,rfl,SqL.of st.w,Zv (nl_get hp),_,rfl,_,_,rfl,rfl,_,rfl,_,rfl,Ta,_,_,.ref tl[p],rfl,rfl,SqL.of TA1.top,Zv (by rw[Qx,Qb hpt];rfl),tl[p],rfl,⟨_,SqL.of (TA1.row p tl[p] (Qb hpt))⟩,
    Za0 (K:=K) (a:=tl[p]) (xs:=nl (g p)) (fun k σ H2=>E5 fun row d wt dep v7=>σ=[some (.ref Ta),some (.ref Ra),some (.ref Aa),some (.int j),some (.ref Wa),some (.int (pl+1)),some (.int p),v7]/\SpSt H H2 Ra Aa Wa n row d wt/\BF g V0 row0 n j row d wt pl dep/\wt[pl]?=some p/\Part g row wt dep p k/\goN p (goW g (n-(pl+1)) (pl+1)) ((g p).drop k) row d wt=goW g n 0 (put row0 j (some 0)) above0 [j])
     ⟨row,d,wt,dep,_,rfl,st,B,hp,(fun y hy=>by rw[List.take_zero]at hy;cases hy),by rw[List.drop_zero,<-Zh2 g (n-(pl+1)) pl p row d wt hp,show n-(pl+1)+1=n-pl by omega];exact hG⟩ (fun k σ H2 _⟨row,d,wt,dep,v7,_,st2,_⟩=>SqL.of ((tied st2.s).row p tl[p] (Qb hpt))) (fun k x σ H2 hx xq1=>?_) (fun σ H2 xq1=>?_)⟩
   ·obtain⟨l,above2,wt2,dep2,v7,e,st2,B2,hp2,A2,hG2⟩:=xq1
    subst e;obtain⟨y,hy,rfl⟩:∃y,(g p)[k]?=some y/\x=V.int (y:Int):=by
     unfold nl at hx;rw[Qx]at hx;cases z:(g p)[k]? with
     |none=>rw[z]at hx;cases hx
     |some y=>rw[z]at hx;cases hx;exact⟨y,rfl,rfl⟩
    have hya:y∈g p:=Qj hy;have hdr:(g p).drop k=y::(g p).drop (k+1):=by
     obtain⟨hk,ek⟩:=Qd.mp hy;rw[<-ek];exact Um hk
    rw[hdr]at hG2;unfold goN at hG2;have hyn:y<n:=B2.bnd p y hya;have hpw:=Qj hp2;have rowp:(ol l n)[p]?=some (.int (tint (dep2 p))):=by rw[JW _ hpn];unfold ov;rw[B2.col p hpw]
    refine⟨_,rfl,_,rfl,Ra,_,_,ov l y,rfl,rfl,SqL.of st2.r,Zv (JW _ hyn),rfl,_,rfl,Z3 (fun hz=>?_) (fun hz=>?_)⟩
    ·have hz':l y=none:=ov_none.mp (Qr hz)
     refine⟨_,rfl,_,rfl,Ra,_,_,.int (tint (dep2 p)),rfl,rfl,SqL.of st2.r,Zv rowp,_,_,rfl,rfl,_,rfl,_,rfl,Ra,_,y,rfl,rfl,st2.r,by rw[ZaE];exact hyn,_,rfl,_,rfl,_,rfl,Aa,ol (up1 above2) n,y,rfl,rfl,by rw[Zi (Ne.symm hRA)];exact st2.a,by rw[ZaE];exact hyn,?_⟩;have hw3:(upd (upd H2 Ra (.lst ((ol l n).set y (.int (1-tint (dep2 p)))))) Aa (.lst ((ol (up1 above2) n).set y (.int (p:Int))))) Wa=some (.lst (nl wt2)):=by rw[Zi nA,Zi nR];exact st2.w
     have hwl:wt2.length<=n:=JK n wt2 B2.nd B2.lt;refine⟨_,rfl,.inl ⟨rfl,_,SqL.of hw3⟩,_,rfl,Wa,_,_,rfl,rfl,hw3,(by rw[Zy,QP];omega),_,_,_,_,_,rfl,?_,B2.add hp2 hya hz',by rw[QJ (Qd.mp hp2).1];exact hp2,Part.add B2 hp2 hy hz' A2,by rw[if_pos hz',B2.col p hpw]at hG2;exact hG2⟩;refine⟨?_,?_,?_,fun b o e h1 h2=>?_⟩
     ·rw[Zi (Ne.symm nR),Zi hRA,Zd,Ze2]
     ·rw[Zi (Ne.symm nA),Zd,Ze2,Zij]
     ·rw[Zd]
      unfold nl;rw[QO];rfl
     ·rw[Zi (show b≠Wa from fun z=>by rw[z,hW]at e;cases e),Zi h2,Zi h1]
      exact st2.s b o e h1 h2
    ·have hz':l y≠none:=fun z=>hz (Qu (ov_none.mpr z))
     obtain⟨v,hv⟩:∃v,l y=some v:=Option.ne_none_iff_exists'.mp hz';refine⟨_,rfl,_,rfl,Ra,_,_,.int v,rfl,rfl,SqL.of st2.r,Zv (show(ol l n)[y]?=some (.int v) by rw[JW _ hyn];unfold ov;rw[hv]),_,rfl,_,rfl,Ra,_,_,.int (tint (dep2 p)),rfl,rfl,SqL.of st2.r,Zv rowp,rfl,_,rfl,Z3 (fun he=>?_) (fun he=>?_)⟩
     ·have he':l y=l p:=by
       have:=Qr he;rw[hv,B2.col p hpw];cases this;rfl
      obtain⟨c1,c2⟩:=B2.clash hp2 hya he';refine⟨_,rfl,_,rfl,rfl,fun t H3 s3 ht=>?_⟩;have st3:=st2.same s3;rw[if_neg hz',if_pos he']at hG2;exact(q H3 l above2 wt2 pl dep2 st3.s st3.r st3.a B2).2 t p y hG2.symm ht hpw c1 hya c2
     ·have he':l y≠l p:=fun z=>he (Qu (by rw[hv,B2.col p hpw]at z;rw[Option.some.inj z]))
      exact⟨_,_,_,_,_,rfl,st2,B2,hp2,Part.skip B2 hp2 hy hz' he' A2,by rw[if_neg hz',if_neg he']at hG2;exact hG2⟩
   ·obtain⟨l,above2,wt2,dep2,v7,e,st2,B2,hp2,A2,hG2⟩:=xq1
    subst e;rw[Zy]at A2 hG2;rw[List.drop_length]at hG2;exact⟨n-(pl+1),by omega,l,above2,wt2,pl+1,dep2,_,_,rfl,rfl,st2,B2.next hp2 A2,hG2⟩
  ·have hle:wt.length<=pl:=by
    rw[<-Zy];have:¬((pl:Int)<((nl wt).length:Int)):=fun z=>hlt (Qu z);omega
   exact(q H' row d wt pl dep st.s st.r st.a B).1 hle (by rw[<-hG,ZiO g _ _ _ _ _ hle])
end
def compScope:Expr->Scope
 | .ListComp _ _ s _=>s
 | .Call _ [e] _ _=>compScope e
 | .Compare a _ _ _=>compScope a
 |_=>{kind:= .function,names:=[],isGenerator:=false,isCoroutine:=false}
def retE:Stmt->Expr
 | .Return (some e) _=>e
 | .Assign _ e _=>e
 |_=> .Constant .none 0 ⟨0,0,0,0⟩
def stOf(i k:Nat):Stmt:=(ZE (top i)).getD k (.Pass ⟨0,0,0,0⟩)
structure NetZ(H:Hp)(p:Addr)(n:Nat)(q:Addr)(ts:List V)(es:List (Nat×Nat)):Prop where
 e1:H p=some (.tup [.int (n:Int),.ref q])
 e2:H q=some (.tup ts)
 len:ts.length=es.length
 tie:∀(i:Nat) t,ts[i]?=some t->∃a,t=V.ref a/\H a=some (.tup [.int ((es.getD i (0,0)).1:Int),.int ((es.getD i (0,0)).2:Int)])
 l200:es.length<=200
 n60:n<=60
 ok:∀e∈es,e.1<n/\e.2<n/\e.1≠e.2
theorem NetZ.tk{H H':Hp}{p q:Addr}{n:Nat}{ts:List V}{es:List (Nat×Nat)}(h:NetZ H p n q ts es)(k:Tk H H'):NetZ H' p n q ts es:=
 ⟨k _ _ h.e1,k _ _ h.e2,h.len,fun i t e=>let⟨a,x,y⟩:=h.tie i t e;⟨a,x,k _ _ y⟩,h.l200,h.n60,h.ok⟩
def grow(F:Nat->List Nat)(k v:Nat):Nat->List Nat:=fun i=>if i=k then F i++[v]else F i
def adjF(es:List (Nat×Nat)):Nat->Nat->List Nat
 |0=>fun _=>[]
 |m+1=>grow (grow (adjF es m) (es.getD m (0,0)).1 (es.getD m (0,0)).2) (es.getD m (0,0)).2 (es.getD m (0,0)).1
theorem ZdE{F}{k v i y}:y∈grow F k v i↔y∈F i\/(i=k/\y=v):=by
 unfold grow;by_cases h:i=k
 ·simp_all
 ·simp_all
theorem mem_adjF(es)(x y):∀m,y∈adjF es m x↔∃k,k<m/\((x=(es.getD k (0,0)).1/\y=(es.getD k (0,0)).2)\/(x=(es.getD k (0,0)).2/\y=(es.getD k (0,0)).1))
 |0=>⟨(fun h=>by cases h),fun⟨k,h,_⟩=>absurd h (QK _)⟩
 |m+1=>by
  unfold adjF;rw[ZdE,ZdE,mem_adjF es x y m];constructor
  ·rintro((⟨k,_,a⟩|h)|h)
   ·exact⟨k,by omega,a⟩
   ·exact⟨m,by omega,.inl h⟩
   ·exact⟨m,by omega,.inr h⟩
  ·grind
theorem ZhZ(es)(m x y)(h:y∈adjF es m x):x∈adjF es m y:=by
 rw[mem_adjF]at h⊢;obtain⟨k,b,a⟩:=h;exact⟨k,b,a.elim (fun z=> .inr ⟨z.2,z.1⟩) fun z=> .inl ⟨z.2,z.1⟩⟩
theorem getD_mem{es:List _}{k:Nat}(h:k<es.length):es.getD k (0,0)∈es:=by simp_all
theorem Zia{H}{p q}{n}{ts}{es}(N:NetZ H p n q ts es)(x y)(h:y∈adjF es es.length x):y<n:=by
 rw[mem_adjF]at h;obtain⟨k,c,d⟩:=h;obtain⟨a,b,_⟩:=N.ok _ (getD_mem c);rcases d with z|z
 ·rw[z.2];exact b
 ·rw[z.2];exact a
theorem ZbX(es)(i):∀m,(adjF es m i).length<=2*m
 |0=>Qe _
 |m+1=>by
  have h:=ZbX es i m;unfold adjF grow
  grind
structure RS(H1 H:Hp)(R:Addr)(rs:List Addr)(F:Nat->List Nat):Prop where
 top:H R=some (.lst (rs.map V.ref))
 row:∀(i:Nat) a,rs[i]?=some a->H a=some (.lst (nl (F i)))
 same:Same H1 H
theorem RS.write{H1 H}{R a}{rs}{F}{k v}(st:RS H1 H R rs F)(nd:rs.Nodup)(hR:R ∉ rs)(fr:∀a∈rs,H1 a=none) (hk:rs[k]?=some a):RS H1 (upd H a (.lst (nl (F k)++[.int v]))) R rs (grow F k v):=by
 have c:=Qj hk;refine⟨?_,fun i b e=>?_,fun _ _ g=>?_⟩
 ·rw[Zi (fun z=>hR (by rw[z];exact c))]
  exact st.top
 ·unfold grow
  by_cases f:i=k
  ·subst f
   rw[hk]at e;cases e;rw[Zd,if_pos rfl];unfold nl
   simp_all
  ·rw[if_neg f]
   have d:b≠a:=fun z=>by
    subst z;obtain⟨m,l⟩:=Qd.mp e;obtain⟨h,j⟩:=Qd.mp hk;exact f ((List.getElem_inj (h₀:=m) (h₁:=h) nd).mp (l.trans j.symm))
   rw[Zi d];exact st.row i b e
 ·rw[Zi (Zq g (fr a c))]
  exact st.same _ _ g
section
variable{P:Program}{w:World}{K:PySem.W.Frag}{mg:Str->Option Value}{base:Heap}{Pt c:Addr}
abbrev sNb:Stmt:=top 51
abbrev ZiG:Scope:=compScope (retE (stOf 51 0))
abbrev nNb:List Str:=["net","point","tied","one","other"]
inductive spNb(vs:List V)(H:Hp)(Q:VK)(_z3:XK):Prop
 |mk (p n q ts es:_) (_:vs=[.ref p]) (_:NetZ H p n q ts es) (_:∀H' Ta tl,Same H H'->Zdm H' Ta tl (adjF es es.length) n->Q (.ref Ta) H')
theorem ZnO:(["point"]:List Str).Nodup:=by decide+kernel
theorem scNb:Zm nNb ["net"] (Zg sNb):=⟨rfl,rfl,rfl,by decide+kernel,rfl,by decide+kernel,by decide+kernel⟩
theorem ZmO{f}{cdv}{A}{outer}{s}{H}{E}:
  Blk (Yg CX0 P w K mg base nNb "neighbours" (Zg sNb) f cdv A outer s H E).nox ZiG [] ["point"] [none]:=by
 refine⟨rfl,rfl,by decide+kernel,by decide+kernel,fun p c=>(by cases c),fun y d e=>?_,trivial⟩;have _:y∈[((PySem.Str.ofString _),NameKind.local),(PySem.Str.ofString _,.local)]:=d
 grind
theorem ok_nb{f}{fd}(F:Fun K "neighbours" "neighbours" sNb f fd)(T:Bi mg):FnOk P w K mg base CX0 1 f fd ["net"] spNb:=by
 refine F.ok scNb (fun vs H Q E h=>?_) (fun cdv A outer s H vs Q E hr h=>?_)
 ·obtain⟨p,n,q,ts,j,rfl,_⟩:=h
  rfl
 ·obtain⟨p,n,qa,ts,j,rfl,N,q⟩:=h
  refine⟨_,Zb (Zkf ZmO rfl rfl T.range (Zc (Zk Zj (pv 0) Ze (fun _ _=>rfl)) Za) (Z7 (YI (Z9 0) (JX _)) Ye) rfl (fun C fp s H=>Zu (i:=0) ZnO rfl (Or.inl rfl)) (fun C fp s H=>Zbd) (fun C fp s H=>ZI Za)
    (Zu (i:=2) scNb.nd rfl (Or.inl rfl)) rfl)
   (Zb (ZG QD rfl (Y8 (Zk Zj (pv 0) Ze (fun _ _=>rfl))) (ZaC rfl (ZP (Zu (i:=3) scNb.nd rfl (Or.inl rfl)) (ZP (Zu (i:=4) scNb.nd rfl (Or.inl rfl)) Ji)))
    (Zb (ZF (Y6 QB QG QH ZC (Zk Zz (pv 2) (pv 3) (fun _ _=>rfl)) (Zc (pv 4) Za)))
    (Zf (ZF (Y6 QB QG QH ZC (Zk Zz (pv 2) (pv 4) (fun _ _=>rfl)) (Zc (pv 3) Za))))))
   (Zf (Zn (pv 2)))),?_⟩
  have h60:=N.n60;have h200:=N.l200;have hlen:=N.len;refine⟨_,rfl,p,_,_,_,rfl,rfl,SqT.of N.e1,rfl,n,rfl,by omega,fun i ys σ m=>∃g,ys=g.map V.ref/\g.length=i/\g.Nodup/\Same H m/\(∀b∈g,H b=none/\m b=some (.lst []))/\∃v0,σ=[v0],
   ⟨[],rfl,rfl,Q4,Same.refl H,(fun b hb=>by cases hb),none,rfl⟩,fun i ys σ m hi⟨g,e1,e2,_⟩=>by subst e1;rw[Qq];omega,fun i ys σ m hi xq1=>?_,fun ys σ m xq1 R H2 s2 hR=>?_⟩
  ·obtain⟨g,e1,e2,nd,sH,l,v0,e3⟩:=xq1
   subst e1 e3;dsimp only[ZaZ,tTrue];refine Yi ⟨(QE _),fun d hd=>⟨g++[d],by rw[QO];rfl,by rw[Qk,e2];rfl,?_,Same.trans sH (Zh hd),fun b hb=>?_,_,rfl⟩⟩
   ·grind
   ·rcases Qw.mp hb with z|z
    ·exact⟨(l b z).1,by rw[Zi (Zq (l b z).2 hd)];exact(l b z).2⟩
    ·rw[Qf.mp z]
     refine⟨?_,Zd⟩;cases y:H d with
     |none=>rfl
     |some o=>rw[sH d o y]at hd;cases hd
  ·obtain⟨g,e1,e2,nd,sH,l,_⟩:=xq1
   subst e1;have sH2:=Same.trans sH s2;have hRn:R ∉ g:=fun z=>by
    have z2:=s2 _ _ (l R z).2;rw[hR]at z2;cases g with
    |nil=>cases z
    |cons b bs=>cases z2
   have fr:=fun b hb=>(l b hb).1;refine⟨_,rfl,p,_,_,_,rfl,rfl,SqT.of (sH2 _ _ N.e1),rfl,qa,rfl,⟨_,SqT.of (sH2 _ _ N.e2)⟩,Y5 (K:=K) (a:=qa) (xs:=ts) (fun i σ m=>(∃v1 v3 v4,σ=[some (.ref p),v1,some (.ref R),v3,v4])/\RS H m R g (adjF j i)) ⟨⟨_,_,_,rfl⟩,(show RS H H2 R g (adjF j 0)from⟨hR,fun i b e=>by rw[s2 _ _ (l b (Qj e)).2];rfl,sH2⟩)⟩ (fun i σ m _ z=>SqT.of (z.2.same _ _ N.e2)) (fun i x σ m hx xq1=>?_) (fun σ m xq1=>?_)⟩
   ·obtain⟨⟨v1,v3,v4,e⟩,st⟩:=xq1
    subst e;have hi':=(Qd.mp hx).1;obtain⟨b,rfl,hbt⟩:=N.tie i x hx;obtain⟨a1,b1,ab⟩:=N.ok _ (getD_mem (show i<j.length by omega));have l1:(j.getD i (0,0)).1<g.length:=by omega
    have l2:(j.getD i (0,0)).2<g.length:=by omega
    have hz:∀(G:Nat->List Nat)(k:Nat),(G k).length<=2*i+1->(nl (G k)).length<sizeLine:=fun G k hG=>by rw[Zy,QP];omega
    refine⟨b,_,rfl,SqT.of (st.same _ _ hbt),rfl,_,_,rfl,_,_,rfl,rfl,?_⟩;have r1:=st.row _ _ (Qb l1);have st2:=st.write (v:=(j.getD i (0,0)).2) nd hRn fr (Qb l1);have r2:=st2.row _ _ (Qb l2);refine⟨_,rfl,_,rfl,R,_,_,.ref g[(j.getD i (0,0)).1],rfl,rfl,SqL.of st.top,Zv (by rw[Qx,Qb l1];rfl),.inl ⟨rfl,_,SqL.of r1⟩,_,rfl,g[(j.getD i (0,0)).1],_,_,rfl,rfl,r1,hz _ _ (by have:=ZbX j (j.getD i (0,0)).1 i;omega),?_⟩;refine⟨_,rfl,_,rfl,R,_,_,.ref g[(j.getD i (0,0)).2],rfl,rfl,SqL.of st2.top,Zv (by rw[Qx,Qb l2];rfl),.inl ⟨rfl,_,SqL.of r2⟩,_,rfl,g[(j.getD i (0,0)).2],_,_,rfl,rfl,r2,hz _ _ ?_,⟨_,_,_,rfl⟩,(st2.write (v:=(j.getD i (0,0)).1) nd hRn fr (Qb l2))⟩;have:=ZbX j (j.getD i (0,0)).2 i;unfold grow;rw[if_neg (fun z=>ab z.symm)];omega
   ·obtain⟨⟨v1,v3,v4,e⟩,st⟩:=xq1
    subst e;rw[hlen]at st;exact⟨_,rfl,q m R g st.same ⟨st.top,e2,fun i b e=>st.row i b e⟩⟩
end
section
variable{adjL:Nat->List Nat}{V0:Nat->Prop}{row0 row:Nat->Option Int}{n root:Nat}{above:Nat->Option Nat}{wt:List Nat}{pl:Nat}{dep:Nat->Nat}
theorem BF.dep_lt(B:BF adjL V0 row0 n root row above wt pl dep){x}(hx:x∈wt):dep x<n:=by
 have h:=JK n ((List.range (dep x+1)).map (it (parOf above) x)) (by
  rw[List.Nodup,Ul];refine Uz (fun{i j} a c h=>?_) (U8 (n:=dep x+1));rw[QC]at a c;intro z;have _:=(B.up hx i (by omega)).2;have _:=(B.up hx j (by omega)).2
  grind) (fun y b=>by
  obtain⟨i,a,rfl⟩:=QQ.mp b;rw[QC]at a;exact B.lt _ (B.up hx i (by omega)).1)
 grind
end
def leg(above:Nat->Option Nat)(x m:Nat):List Nat:=(List.range m).map (it (parOf above) x)
theorem YW(above)(x m):leg above x (m+1)=leg above x m++[it (parOf above) x m]:=by
 unfold leg;rw[UA,QO];rfl
theorem nl_app(l)(x):nl (l++[x])=nl l++[.int x]:=by
 unfold nl
 simp_all
theorem Zdd(above)(x m):(leg above x m).length=m:=by unfold leg;simp
theorem ZhP(xs)(v):Zdk (xs++[v]) none (some (-1))=xs:=by
 have e:HT.sIx (xs++[v]).length (xs++[v]).length (some (-1))=xs.length:=by
  rw[Qk,QF];unfold HT.sIx
  grind
 unfold Zdk;rw[e,HT.sIx_none,List.drop_zero,Nat.sub_zero,List.take_left]
section
variable{P:Program}{w:World}{K:PySem.W.Frag}{mg:Str->Option Value}{base:Heap}{Pt c:Addr}
abbrev sCl:Stmt:=top 53
abbrev nCl:List Str:=["above","one","other","up","down"]
inductive spCl(vs:List V)(H:Hp)(Q:VK)(_z3:XK):Prop
 |mk (Aa:Addr) (adjL:Nat->List Nat) (V0:Nat->Prop) (row0 row:Nat->Option Int) (n root:Nat) (above:Nat->Option Nat) (wt:List Nat) (pl:Nat) (dep:Nat->Nat) (a b:Nat) (_:vs=[.ref Aa,.int a,.int b]) (_:H Aa=some (.lst (ol (up1 above) n))) (_:BF adjL V0 row0 n root row above wt pl dep) (_:a∈wt) (_:b∈wt) (_:dep b=dep a) (_:n<=60) (_:∀(H')(t)(m),Same H H'->H' t=some (.tup (nl (ring (parOf above) a b m)))->m<=dep a->it (parOf above) a m=it (parOf above) b m->(∀i,i<m->it (parOf above) a i≠it (parOf above) b i)->Q (.ref t) H')
theorem scCl:Zm nCl ["above","one","other"] (Zg sCl):=⟨rfl,rfl,rfl,by decide+kernel,rfl,by decide+kernel,by decide+kernel⟩
theorem ok_cl{f}{fd}(F:Fun K "closed" "closed" sCl f fd)(T:Bi mg)(hrv:mg "reversed"=none):FnOk P w K mg base CX0 1 f fd ["above","one","other"] spCl:=by
 refine F.ok scCl (fun vs H Q E h=>?_) (fun cdv A outer s H vs Q E hr h=>?_)
 ·obtain⟨Aa,adjL,V0,row0,row,n,root,c,wt,pl,dep,a,b,rfl,_⟩:=h
  rfl
 ·obtain⟨Aa,adjL,V0,row0,row,n,root,c,wt,pl,dep,a,b,rfl,hA,B,ha,hb,hd,h60,q⟩:=h
  refine⟨_,Zb (Zl (i:=3) scCl.nd rfl (Or.inl rfl) (ZI (Zc (pv 1) Za)))
   (Zb (Zl (i:=4) scCl.nd rfl (Or.inl rfl) (ZI (Zc (pv 2) Za)))
   (Zb (J6 QD (Zp Zcw (Zk Zz (pv 3) (J7 YE Ze) (fun _ _=>rfl)) (Zk Zz (pv 4) (J7 YE Ze) (fun _ _=>rfl)) (Zx _))
    (Zb (ZF (Y6 QB QG QH ZC (pv 3) (Zc (Zk Zz (pv 0) (Zk Zz (pv 3) (J7 YE Ze) (fun _ _=>rfl)) (fun _ _=>rfl)) Za)))
    (Zf (ZF (Y6 QB QG QH ZC (pv 4) (Zc (Zk Zz (pv 0) (Zk Zz (pv 4) (J7 YE Ze) (fun _ _=>rfl)) (fun _ _=>rfl)) Za))))))
   (Zf (Zn (Z8 Z6 rfl T.tuple Y2 (Zc (Zt Zd7 (pv 3) (Zev rfl (Zb5 ZcL (pv 4) ZcR (ZcQ (J7 YE Ze))) rfl T.list rfl hrv rfl)) Za)))))),?_⟩
  have hdn:=B.dep_lt ha;refine⟨_,rfl,(by show 1<=sizeLine;decide),fun U hU=>⟨_,rfl,(by show 1<=sizeLine;decide),fun D hD=>?_⟩⟩;have hUD:U≠D:=fun z=>by subst z;rw[Zd]at hD;cases hD
  have hD0:H D=none:=by
   cases z:H D with
   |none=>rfl
   |some o=>rw[Zh hU D o z]at hD;cases hD
  refine⟨fun μ σ H'=>∃m,μ=dep a-m/\m<=dep a/\(∀i,i<m->it (parOf c) a i≠it (parOf c) b i)/\σ=[some (.ref Aa),some (.int (a:Int)),some (.int (b:Int)),some (.ref U),some (.ref D)]/\H' U=some (.lst (nl (leg c a (m+1))))/\H' D=some (.lst (nl (leg c b (m+1))))/\Same H H',
   ⟨_,0,rfl,QE _,fun i h=>absurd h (QK _),rfl,by rw[Zi hUD,Zd];rfl,by rw[Zd];rfl,(show Same H (upd (upd H U (.lst [.int (a:Int)])) D (.lst [.int (b:Int)]))from Same.trans (Zh hU) (Zh hD))⟩,?_⟩
  rintro μ σ H' ⟨m,rfl,hm,hf,rfl,hU',hD',sH⟩;rw[YW,nl_app]at hU' hD';have lU:=Za6 (nl (leg c a m)) (.int ((it (parOf c) a m:Nat):Int));have lD:=Za6 (nl (leg c b m)) (.int ((it (parOf c) b m:Nat):Int));refine⟨_,rfl,_,rfl,U,_,_,_,rfl,rfl,SqL.of hU',lU,_,rfl,_,rfl,D,_,_,_,rfl,rfl,SqL.of hD',lD,rfl,_,rfl,Z3 (fun hne=>?_) (fun hne=>?_)⟩
  ·have hne':it (parOf c) a m≠it (parOf c) b m:=fun z=>by
    rw[z]at hne;simp at hne
   have hlt:m<dep a:=by
    rcases Nat.lt_or_eq_of_le hm with h|h
    ·exact h
    ·exact absurd (by rw[h,B.upEnd ha,<-hd,B.upEnd hb]) hne'
   refine⟨fun σ' H'=>∃m',m'<dep a-m/\∃m,m'=dep a-m/\m<=dep a/\(∀i,i<m->it (parOf c) a i≠it (parOf c) b i)/\σ'=[some (.ref Aa),some (.int (a:Int)),some (.int (b:Int)),some (.ref U),some (.ref D)]/\H' U=some (.lst (nl (leg c a (m+1))))/\H' D=some (.lst (nl (leg c b (m+1))))/\Same H H',fun _ _ h=>h,?_⟩;have ab:∀x,x∈wt->m<dep x->atI (ol (up1 c) n) ((it (parOf c) x m:Nat):Int)=some (.int ((it (parOf c) x (m+1):Nat):Int)):=fun x hx hl=>by
    refine Zv ?_;rw[JW _ (B.lt _ (B.up hx m (by omega)).1)];unfold ov up1;rw[(B.upTie hx m hl).1];rfl
   have szm:∀x,(nl (leg c x m)++[V.int ((it (parOf c) x m:Nat):Int)]).length<sizeLine:=fun x=>by
    rw[Qk,Zy,Zdd,QF,QP];omega
   refine⟨_,rfl,.inl ⟨rfl,_,SqL.of hU'⟩,_,rfl,_,rfl,_,rfl,U,_,_,_,rfl,rfl,SqL.of hU',lU,Aa,_,_,_,rfl,rfl,SqL.of (sH _ _ hA),ab a ha hlt,U,_,_,rfl,rfl,hU',szm a,?_⟩;have hD2:(upd H' U (.lst (nl (leg c a m)++[.int ((it (parOf c) a m:Nat):Int)]++[.int ((it (parOf c) a (m+1):Nat):Int)]))) D=some (.lst (nl (leg c b m)++[.int ((it (parOf c) b m:Nat):Int)])):=by rw[Zi (Ne.symm hUD)];exact hD'
   refine⟨_,rfl,.inl ⟨rfl,_,SqL.of hD2⟩,_,rfl,_,rfl,_,rfl,D,_,_,_,rfl,rfl,SqL.of hD2,lD,Aa,_,_,_,rfl,rfl,SqL.of (show(upd H' U (.lst (nl (leg c a m)++[.int ((it (parOf c) a m:Nat):Int)]++[.int ((it (parOf c) a (m+1):Nat):Int)]))) Aa=some (.lst (ol (up1 c) n)) by rw[Zi (show Aa≠U from fun z=>by rw[<-z,hA]at hU;cases hU)];exact sH _ _ hA),ab b hb (by omega),D,_,_,rfl,rfl,hD2,szm b,dep a-(m+1),by omega,m+1,rfl,hlt,fun i hi=>?_,rfl,?_,?_,fun b' o' e'=>?_⟩
   ·by_cases e:i=m
    ·rw[e];exact hne'
    ·exact hf i (by omega)
   ·rw[Zi hUD,Zd,YW,nl_app,YW,nl_app]
   ·rw[Zd,YW,nl_app,YW,nl_app]
   ·rw[Zi (Zq e' hD0),Zi (Zq e' hU)]
    exact sH _ _ e'
  ·have heq:it (parOf c) a m=it (parOf c) b m:=by
    by_cases e:it (parOf c) a m=it (parOf c) b m
    ·exact e
    ·refine absurd ?_ hne
     have:¬(V.int ((it (parOf c) a m:Nat):Int)=V.int ((it (parOf c) b m:Nat):Int)):=fun z=>e (by injection z with z;omega);rw[QX this];rfl
   refine⟨_,rfl,_,rfl,_,rfl,_,rfl,D,_,rfl,SqL.of hD',fun l1 h1=>?_⟩;rw[ZhP];refine⟨l1,_,rfl,SqL.of Zd,fun l2 H2 s2 h2=>⟨U,l2,_,_,rfl,rfl,(s2 _ _ (Zh h1 (o:= .lst (nl (leg c b m))) _ _ hU')),h2,(by rw[Qk,List.length_reverse,Zy,Zy,Zdd,Zdd,QF];omega),fun l3 H3 s3 h3=>⟨l3,_,rfl,.inl h3,fun t H4 s4 ht=>(q H4 t m (Same.trans (Same.trans (Same.trans (Same.trans sH (Zh h1)) s2) s3) s4) ?_ hm heq hf)⟩⟩⟩;rw[ht];have e:nl (ring (parOf c) a b m)=nl (leg c a m)++[.int ((it (parOf c) a m:Nat):Int)]++(nl (leg c b m)).reverse:=by
    unfold ring;rw[<-nl_app,<-YW];unfold nl leg;rw[QO,List.map_reverse]
   rw[e]
end
inductive Ans where
 |ring (above:Nat->Option Nat) (a b:Nat)
 |sides (row:Nat->Option Int)
def goS(adjL:Nat->List Nat)(n:Nat):Nat->Nat->(Nat->Option Int)->(Nat->Option Nat)->Ans
 |0,_,row,_=> .sides row
 |f+1,r,row,ab=>if row r=none then(match(goW adjL n 0 (put row r (some 0)) ab [r]).clash with
   |some (a,b)=> .ring (goW adjL n 0 (put row r (some 0)) ab [r]).above a b
   |none=>goS adjL n f (r+1) (goW adjL n 0 (put row r (some 0)) ab [r]).row (goW adjL n 0 (put row r (some 0)) ab [r]).above)else goS adjL n f (r+1) row ab
theorem Zh3(adjL)(n f r)(row)(ab)(h:row r≠none):goS adjL n (f+1) r row ab=goS adjL n f (r+1) row ab:=by
 show(if row r=none then _ else _)=_;rw[if_neg h]
theorem Zh5(adjL)(n f r)(row row')(ab ab')(h:row r=none)(hW:goW adjL n 0 (put row r (some 0)) ab [r]=⟨none,row',ab'⟩):goS adjL n (f+1) r row ab=goS adjL n f (r+1) row' ab':=by
 show(if row r=none then _ else _)=_;rw[if_pos h,hW]
theorem Zh4(adjL)(n f r a b)(row row')(ab ab')(h:row r=none)(hW:goW adjL n 0 (put row r (some 0)) ab [r]=⟨some (a,b),row',ab'⟩):goS adjL n (f+1) r row ab= .ring ab' a b:=by
 show(if row r=none then _ else _)=_;rw[if_pos h,hW]
abbrev no1:Nat->Option Int:=fun _=>none
abbrev no2:Nat->Option Nat:=fun _=>none
theorem Zd3(N):(List.replicate N ([.non])).flatten=ol no1 N:=by
 induction N with
 |zero=>rfl
 |_ n a=>
  rw[List.replicate_succ',List.flatten_append,a];unfold ol;rw[UA,QO];rfl
section
variable{P:Program}{w:World}{K:PySem.W.Frag}{mg:Str->Option Value}{base:Heap}{Pt c:Addr}
abbrev sSd:Stmt:=top 54
abbrev nSd:List Str:=["net","tied","row","above","root","clash"]
inductive spSd(vs:List V)(H:Hp)(Q:VK)(_z3:XK):Prop
 |mk (p n qa ts es:_) (_:vs=[.ref p]) (_:NetZ H p n qa ts es) (_:(∀H' t r row',Same H H'->H' t=some (.tup [.str "sides",.ref r])->H' r=some (.tup (ol row' n))->(∃V rt,Out (adjF es es.length) V row' rt n)->goS (adjF es es.length) n n 0 no1 no2= .sides row'->Q (.ref t) H')) (_:∀H' t r above a b m,Same H H'->H' t=some (.tup [.str "ring",.ref r])->H' r=some (.tup (nl (ring (parOf above) a b m)))->goS (adjF es es.length) n n 0 no1 no2= .ring above a b->it (parOf above) a m=it (parOf above) b m->(∀i,i<m->it (parOf above) a i≠it (parOf above) b i)->(1<=m/\(∀x∈ring (parOf above) a b m,x<n)/\(ring (parOf above) a b m).Nodup/\∀k,k<2*m+1->(ring (parOf above) a b m).getD k 0∈adjF es es.length ((ring (parOf above) a b m).getD (if k=0 then 2*m else k-1) 0))->Q (.ref t) H')
theorem scSd:Zm nSd ["net"] (Zg sSd):=⟨rfl,rfl,rfl,by decide+kernel,rfl,by decide+kernel,by decide+kernel⟩
theorem ZkZ{H}{p q}{n}{ts}{es}(N:NetZ H p n q ts es)(x y)(h:y∈adjF es es.length x):x≠y:=by
 rw[mem_adjF]at h;obtain⟨k,a,_⟩:=h;have _:=(N.ok _ (getD_mem a)).2.2
 grind
theorem ok_sd{f}{fd}(F:Fun K "sides" "sides" sSd f fd)(T:Bi mg)(FN:FnE P w K mg base "neighbours" ["net"] 1 spNb)(FS:FnE P w K mg base "spread" ["tied","row","above","root"] 1 spSpr)(FC:FnE P w K mg base "closed" ["above","one","other"] 1 spCl):FnOk P w K mg base CX0 2 f fd ["net"] spSd:=by
 refine F.ok scSd (fun vs H Q E h=>?_) (fun cdv A outer s H vs Q E hr h=>?_)
 ·obtain⟨p,n,q,ts,es,rfl,_⟩:=h
  rfl
 ·obtain⟨p,n,qa,ts,es,rfl,N,qS,qR⟩:=h
  refine⟨_,Zb (Zl (i:=1) scSd.nd rfl (Or.inl rfl) (Zs FN hr (Zc (pv 0) Za)))
   (Zb (Zl (i:=2) scSd.nd rfl (Or.inl rfl) (Zt Zez (ZI (Zc ZH Za)) (Zk Zj (pv 0) Ze (fun _ _=>rfl))))
   (Zb (Zl (i:=3) scSd.nd rfl (Or.inl rfl) (Zt Zez (ZI (Zc ZH Za)) (Zk Zj (pv 0) Ze (fun _ _=>rfl))))
   (Zb (ZG QD rfl (ZZ rfl T.range (Zc (Zk Zj (pv 0) Ze (fun _ _=>rfl)) Za)) (Zu (i:=4) scSd.nd rfl (Or.inl rfl))
    (Zf (Z2 (Zp ZbA (Zk Zz (pv 2) (pv 4) (fun _ _=>rfl)) ZH (Zx _))
     (Zb (JU Ze (JV (pv 2) (pv 4) Yl))
     (Zb (Zl (i:=5) scSd.nd rfl (Or.inl rfl) (Zs FS hr (Zc (pv 1) (Zc (pv 2) (Zc (pv 3) (Zc (pv 4) Za))))))
     (Zf (Z2 (Zp Zas (pv 5) ZH (Zx _)) (Zf (Zn (Z1 (Zc ZM (Zc (Zs FC hr (Zc (pv 3) (Zc (Zk Zj (pv 5) Ze (fun _ _=>rfl)) (Zc (Zk Zj (pv 5) Ze (fun _ _=>rfl)) Za)))) Za))))) Zw))))
     Zw)))
   (Zf (Zn (Z1 (Zc ZM (Zc (Z8 Z6 rfl T.tuple Y2 (Zc (pv 2) Za)) Za)))))))),?_⟩
  have h60:=N.n60;refine⟨_,rfl,p,n,qa,ts,es,rfl,N,fun H1 Ta tl s1 TA=>?_⟩;have szn:1*((n:Int)).toNat<=sizeLine:=by rw[QP,Q1];omega
  refine⟨(by decide),fun b1 hb1=>⟨_,rfl,p,_,_,_,rfl,rfl,SqT.of (Zh hb1 _ _ (s1 _ _ N.e1)),rfl,b1,(n:Int),_,rfl,rfl,Zd,(by omega),(by omega),szn,fun Ra hRa=>?_⟩⟩;rw[Q1,Zd3];refine⟨(by decide),fun b2 hb2=>?_⟩;have t2:=Same.trans (Same.trans (Zh (o:= .lst [.non]) hb1) (Zh (o:= .lst (ol no1 n)) hRa)) (Zh (o:= .lst [.non]) hb2);refine⟨_,rfl,p,_,_,_,rfl,rfl,SqT.of (t2 _ _ (s1 _ _ N.e1)),rfl,b2,(n:Int),_,rfl,rfl,Zd,(by omega),(by omega),szn,fun Aa hAa=>?_⟩;rw[Q1,Zd3];have t3:=Same.trans t2 (Zh (o:= .lst (ol no1 n)) hAa);have fr:∀{H':Hp}{d:Addr},Same H1 H'->H' d=none->H1 d=none:=fun{H' d} s' h=>by
   cases z:H1 d with
   |none=>rfl
   |some o=>rw[s' d o z]at h;cases h
  have hRa1:=fr (Zh hb1) hRa;have hAa1:=fr t2 hAa;have hRA:Ra≠Aa:=fun z=>by
   subst z;rw[Zh hb2 _ _ Zd]at hAa;cases hAa
  have hne:∀a∈Ta::tl,a≠Ra/\a≠Aa:=fun a ha=>by
   have hs:∃o,H1 a=some o:=by
    rcases Qn.mp ha with z|z
    ·exact⟨_,by rw[z];exact TA.top⟩
    ·obtain⟨i,hi,e⟩:=QW z
     exact⟨_,TA.row i a (by rw[Qb hi,e])⟩
   obtain⟨o,ho⟩:=hs;exact⟨Zq ho hRa1,Zq ho hAa1⟩
  refine⟨_,rfl,p,_,_,_,rfl,rfl,SqT.of (t3 _ _ (s1 _ _ N.e1)),rfl,(n:Int),rfl,by omega,by omega,Y1 (lo:=0) (n:=((n:Int)).toNat) (fun r σ H'=>E6 fun g c V rt v4 v5=>σ=[some (.ref p),some (.ref Ta),some (.ref Ra),some (.ref Aa),v4,v5]/\H' Ra=some (.lst (ol g n))/\H' Aa=some (.lst (ol (up1 c) n))/\Same H1 H'/\Out (adjF es es.length) V g rt r/\goS (adjF es es.length) n (n-r) r g c=goS (adjF es es.length) n n 0 no1 no2)
   ⟨no1,no2,_,_,none,none,rfl,(show(upd (upd (upd (upd H1 b1 (.lst [.non])) Ra (.lst (ol no1 n))) b2 (.lst [.non])) Aa (.lst (ol no1 n))) Ra=some (.lst (ol no1 n))from Same.trans (Zh hb2) (Zh hAa) _ _ Zd),Zd,t3,Out.start,rfl⟩ (fun r σ H' hr' xq1=>?_) (fun σ H' xq1=>?_)⟩
  ·obtain⟨g,c,V,rt,v4,v5,e,hR,hA,sH,O,hG⟩:=xq1
   subst e;rw[Q1]at hr';rw[(show goS (adjF es es.length) n (n-r) r g c=goS (adjF es es.length) n (n-(r+1)+1) r g c by rw[show n-(r+1)+1=n-r by omega])]at hG;refine⟨_,rfl,_,rfl,Ra,_,_,ov g r,rfl,rfl,SqL.of hR,(by rw[U5];exact Zv (JW _ hr')),rfl,_,rfl,Z3 (fun hz=>?_) (fun hz=>?_)⟩
   ·have hz':g r=none:=ov_none.mp (Qr hz)
    refine⟨_,rfl,_,rfl,Ra,_,r,rfl,(by rw[U5]),hR,by rw[ZaE];exact hr',?_⟩;rw[Ze2];have sw:Same H1 (upd H' Ra (.lst (ol (put g r (some 0)) n))):=fun b o e=>by rw[Zi (Zq e hRa1)];exact sH _ _ e
    refine⟨_,rfl,_,rfl,_,rfl,_,rfl,Ta,Ra,Aa,tl,adjF es es.length,V,g,c,n,r,(by rw[U5];rfl),(show∀{H'},Same H1 H'->Zdm H' Ta tl (adjF es es.length) n from fun{H'} s'=>⟨s' _ _ TA.top,TA.len,fun i a e=>s' _ _ (TA.row i a e)⟩) sw,Zd,(by rw[Zi (Ne.symm hRA)];exact hA),hRA,hne,h60,BF.start (ZhZ es es.length) (Zia N) O.shut hz' hr',fun H2 row' above' wt pl dep sm hR2 hA2 B=>⟨fun hl hW=>?_,fun t a b hW ht ha hb hab hd=>?_⟩⟩
    ·have s2:Same H1 H2:=fun b o e=>sm _ _ (sw _ _ e) (Zq e hRa1) (Zq e hAa1)
     rw[Zh5 _ _ _ _ _ _ _ _ hz' hW]at hG;obtain⟨rt',O'⟩:=O.walk B hl;exact⟨_,rfl,rfl,_,rfl,ZA ⟨_,_,_,rt',_,_,rfl,hR2,hA2,s2,O',hG⟩⟩
    ·have s2:Same H1 H2:=fun b o e=>sm _ _ (sw _ _ e) (Zq e hRa1) (Zq e hAa1)
     rw[Zh4 _ _ _ _ _ _ _ _ _ _ hz' hW]at hG;exact⟨_,rfl,rfl,_,rfl,Yi ⟨_,rfl,_,rfl,t,_,_,_,rfl,rfl,SqT.of ht,rfl,_,rfl,t,_,_,_,rfl,rfl,SqT.of ht,rfl,Aa,adjF es es.length,V,g,row',n,r,above',wt,pl,dep,a,b,rfl,hA2,B,ha,hb,hd,h60,fun H3 t' m s3 ht' hm meet first=>⟨rfl,fun t2 H4 s4 ht2=>(qR H4 t2 t' above' a b m (Same.trans (Same.trans (Same.trans s1 s2) s3) s4) ht2 (s4 _ _ ht') hG.symm meet first (B.ring_ok ha hb hd (ZkZ N _ _ hab) hab hm meet first))⟩⟩⟩
   ·have hz':g r≠none:=fun z=>hz (Qu (ov_none.mpr z))
    rw[Zh3 _ _ _ _ _ _ hz']at hG;exact⟨g,c,V,rt,_,_,rfl,hR,hA,sH,O.skip hz',hG⟩
  ·obtain⟨g,c,V,rt,v4,v5,e,hR,hA,sH,O,hG⟩:=xq1
   subst e;rw[Q1]at O hG;rw[Vh]at hG;exact⟨_,rfl,Ra,_,rfl,.inl hR,fun r H2 s2 hr2=>⟨rfl,fun t H3 s3 ht=>(qS H3 t r g (Same.trans (Same.trans (Same.trans s1 sH) s2) s3) ht (s3 _ _ hr2) ⟨V,rt,O⟩ hG.symm)⟩⟩
end
end Sd
namespace My
open PySem L2
theorem ZfA{es}{col:Nat->Bool}(hc:∀e∈es,col e.1≠col e.2) {x y} (h:y∈Sd.adjF es es.length x):col y= !col x:=by
 rw[Sd.mem_adjF]at h;obtain⟨k,c,b⟩:=h;have a:=hc _ (getD_mem c);rcases b with z|z
 ·rw[z.1,z.2];revert a;cases col _<;>cases col _<;>simp
 ·rw[z.1,z.2];revert a;cases col _<;>cases col _<;>simp
theorem Zb1:¬(V.str "sides"=V.str "ring"):=by decide+kernel
structure Rm2(H:Hp)(p r:Addr)(n:Nat)(q:Addr)(ts:List V)(es:List (Nat×Nat))(tl:List (Option Nat))(k m:Nat):Prop where
 N:NetZ H p n q ts es
 hR:H r=some (.tup (tv tl))
 len:tl.length=es.length
 hk:k<es.length
 hb:tl[k]?=some none
 hC:CleanTo es tl es.length
 hm:m<=1000
 h64:es.length<64
 hT:Two es
 hM:∃M,(∀x,x<n->dg es es.length x<=M)/\M<=m
theorem Rm2.same{p r:Addr}{n:Nat}{q:Addr}{ts:List V}{es:List _}{tl:List _}{k m:Nat}(h:Rm2 H p r n q ts es tl k m)(s:Same H H'):Rm2 H' p r n q ts es tl k m:=
 ⟨h.N.same s,s _ _ h.hR,h.len,h.hk,h.hb,h.hC,h.hm,h.h64,h.hT,h.hM⟩
section
variable{P:Program}{w:World}{K:PySem.W.Frag}{mg:Str->Option Value}{base:Heap}{cM:Addr}
abbrev ZjR:Stmt:=inClass (top 56) 0
abbrev ZjX:Stmt:=inClass (top 56) 1
abbrev ZjU:Stmt:=inClass (top 56) 2
def spNd2:Sp:=fun vs H Q _=>∃p m,vs=[.ref p,.int m]/\0<=m/\Q (.int m) H
theorem Zl0:Zm ["self","most"] ["self","most"] (Zg ZjR):=⟨rfl,rfl,rfl,by decide+kernel,rfl,by decide+kernel,by decide+kernel⟩
theorem Zkz(F:Fun K "needed" "TwoSided.needed" ZjR f fd):FnOk P w K mg base CX0 1 f fd ["self","most"] spNd2:=by
 refine F.ok Zl0 (fun a H Q E h=>?_) (fun _ A _ s H a Q E _ h=>?_)
 ·obtain⟨p,m,rfl,_⟩:=h
  rfl
 ·obtain⟨p,m,rfl,_,q⟩:=h
  exact⟨_,Zf (Zn (pv 1)),_,rfl,q⟩
def spAk2:Sp:=fun vs H Q _=>∃s p n q ts es,vs=[.ref s,.ref p]/\NetZ H p n q ts es/\Two es/\∀H',Same H H'->Q .non H'
theorem scAk2:Zm ["self","net","told"] ["self","net"] (Zg ZjX):=⟨rfl,rfl,rfl,by decide+kernel,rfl,by decide+kernel,by decide+kernel⟩
theorem ZkA(F:Fun K "asked" "TwoSided.asked" ZjX f fd)(FS:FnE P w K mg base "sides" ["net"] 2 Sd.spSd):FnOk P w K mg base CX0 3 f fd ["self","net"] spAk2:=by
 refine F.ok scAk2 (fun vs H Q E h=>?_) (fun cdv A _ s H vs Q E hr h=>?_)
 ·obtain⟨s,p,n,q,d,es,rfl,_⟩:=h
  rfl
 ·obtain⟨sf,p,n,qa,d,es,rfl,N,⟨col,hc⟩,q⟩:=h
  refine⟨_,Zb (Zl (i:=2) scAk2.nd rfl (Or.inl rfl) (Zs FS hr (Zc (pv 1) Za))) (Zb (Z2 (Zp ZK (Zk Zj (pv 2) Ze (fun _ _=>rfl)) ZM (Zx _)) ZO Zw) (Zf (Zn ZH))),_,rfl,p,n,qa,d,es,rfl,⟨N.e1,N.e2,N.len,N.tie,N.l200,N.n60,N.ok⟩,fun H' t r _ s' ht _ _ _=>?_,fun H' t r _ a b m s' ht _ _ _ _ hx=>?_⟩
  ·exact⟨_,rfl,t,_,_,_,rfl,rfl,SqT.of ht,rfl,rfl,_,rfl,Z3 (fun z=>absurd (Qr z) Zb1) (fun _=>(q H' s'))⟩
  ·exact(Zd9 (col:=col) fun k hk=>ZfA hc (hx.2.2.2 k hk)).elim
abbrev ZnX:List Str:=["self","net","tints","tie","many","ends","one","other"]
inductive spMr2(vs:List V)(H:Hp)(Q:VK)(_z3:XK):Prop
 |mk (s p r:Addr) (n:Nat) (q:Addr) (ts:List V) (es:List (Nat×Nat)) (tl:List (Option Nat)) (k m:Nat) (_:vs=[.ref s,.ref p,.ref r,.int k,.int m]) (_:Rm2 H p r n q ts es tl k m) (_:¬0<(both es tl (es.getD k (0,0)).1 (es.getD k (0,0)).2 m).length) (_:∀H' l,Same H H'->H l=none->ShSt H' l (put2 es tl k m)->Q (.ref l) H')
theorem scMr2:Zm ZnX nMr (Zg ZjU):=⟨rfl,rfl,rfl,by decide+kernel,rfl,by decide+kernel,by decide+kernel⟩
theorem Zk3(F:Fun K "made_room" "TwoSided.made_room" ZjU f fd)(FFt:FnE P w K mg base "free_tints" ["net","tints","point","many"] 2 spFt):FnOk P w K mg base CX0 3 f fd nMr spMr2:=by
 refine F.ok scMr2 (fun vs H Q E h=>?_) (fun cdv A outer s H vs Q E hr h=>?_)
 ·obtain⟨s,p,r,n,q,ts,a,c,k,m,rfl,_⟩:=h
  rfl
 ·obtain⟨sf,p,r,n,u,ts,a,c,k,m,rfl,I,h0,q⟩:=h
  refine⟨_,Zb (Zl (i:=5) scMr2.nd rfl (Or.inl rfl) (Zk Zj (Zk Zj (pv 1) Ze (fun _ _=>rfl)) (pv 3) (fun _ _=>rfl)))
   (Zb (Zl (i:=6) scMr2.nd rfl (Or.inl rfl) (Zk Zj (Zs FFt hr (Zc (pv 1) (Zc (pv 2) (Zc (Zk Zj (pv 5) Ze (fun _ _=>rfl)) (Zc (pv 4) Za))))) Ze (fun _ _=>rfl)))
   (Zb (Zl (i:=7) scMr2.nd rfl (Or.inl rfl) (Zk Zj (Zs FFt hr (Zc (pv 1) (Zc (pv 2) (Zc (Zk Zj (pv 5) Ze (fun _ _=>rfl)) (Zc (pv 4) Za))))) Ze (fun _ _=>rfl)))
   (Zf (Zn (ZI (Zc (Z1 (Zc ZM (Zc (Zk Zj (pv 5) Ze (fun _ _=>rfl)) (Zc (pv 6) (Zc (pv 7) Za))))) (Zc (Z1 (Zc ZM (Zc (pv 3) (Zc (pv 6) Za)))) Za))))))),?_⟩
  have N:=I.N;obtain⟨M,hM,o⟩:=I.hM;have e:=N.ok _ (getD_mem I.hk);obtain⟨tk,htk,d⟩:=N.at' I.hk;refine⟨_,rfl,p,_,_,_,rfl,rfl,SqT.of N.e1,rfl,_,rfl,u,_,_,_,rfl,rfl,SqT.of N.e2,Zv htk,_,rfl,_,rfl,_,rfl,tk,_,_,_,rfl,rfl,SqT.of d,rfl,_,rfl,p,r,n,u,ts,a,c,(a.getD k (0,0)).1,m,rfl,N,I.hR,I.len,I.hm,fun H1 t1 t h1=>⟨t1,_,_,_,rfl,rfl,SqT.of h1,Zv (j:=0) (nl_get (Yc (Yo (m:=m) I.hk I.hb (x:=(a.getD k (0,0)).1) (.inl rfl) (hM _ e.1) o))),?_⟩⟩;have I1:=I.same t;refine⟨_,rfl,_,rfl,_,rfl,tk,_,_,_,rfl,rfl,SqT.of (t _ _ d),rfl,_,rfl,p,r,n,u,ts,a,c,(a.getD k (0,0)).2,m,rfl,I1.N,I1.hR,I.len,I.hm,fun H2 t2 s2 h2=>⟨t2,_,_,_,rfl,rfl,SqT.of h2,Zv (j:=0) (nl_get (Yc (Yo (m:=m) I.hk I.hb (x:=(a.getD k (0,0)).2) (.inr rfl) (hM _ e.2.1) o))),?_⟩⟩;have g:=Same.trans t s2;refine⟨_,rfl,tk,_,_,_,rfl,rfl,SqT.of (g _ _ d),rfl,_,rfl,_,rfl,rfl,fun a1 G1 u1 g1=>⟨_,rfl,_,rfl,rfl,fun a2 G2 u2 g2=>⟨(by show 2<=sizeLine;decide),fun l5 b=>?_⟩⟩⟩;have l:=Same.trans g (Same.trans u1 u2);refine q _ l5 (Same.trans l (Zh b)) (l.none b) ?_;rw[(show put2 a c k m=[.turn (a.getD k (0,0)).2 (ZcW a c k m) (twoT a c k m),.tint k (ZcW a c k m)] by unfold put2;rw[if_neg h0])];refine⟨[(a1,_),(a2,_)],Zd,rfl,fun x hx=>?_⟩;simp[Qn,Qt,Q3]at hx;rcases hx with rfl|rfl
  ·exact Zh b _ _ (u2 _ _ g1)
  ·exact Zh b _ _ g2
end
end My
namespace L2
open PySem PySem.Spec PyProof.Rows
theorem PS.nox{X}{st}{t}(h:PS X.nox st t):PS X st t:=fun a s σ H D I b=>
 Q2 (h a s σ H D (I.wish _) b) (fun _ _ q=>q.unwish) fun _ _ z=>False.elim z
end L2
namespace My
open PySem L2
def nrm(e:Nat×Nat):Nat×Nat:=(min e.1 e.2,max e.1 e.2)
def ZdX(es:List (Nat×Nat)):Prop:=∃i j,i<j/\j<es.length/\nrm (es.getD i (0,0))=nrm (es.getD j (0,0))
structure RingAt(H:Hp)(es:List (Nat×Nat))(n:Nat)(v:V)(R:List Nat)(m:Nat):Prop where
 at_:∃r,v= .ref r/\H r=some (.tup (nl R))
 len:R.length=2*m+1
 pos:1<=m
 lt:∀x∈R,x<n
 nd:R.Nodup
 tied:∀k,k<2*m+1->R.getD k 0∈Sd.adjF es es.length (R.getD (if k=0 then 2*m else k-1) 0)
theorem RingAt.same{H H':Hp}{es:List _}{n:Nat}{v:V}{R:List _}{m:Nat}(h:RingAt H es n v R m)(s:Same H H'):RingAt H' es n v R m:=
 ⟨let⟨r,a,b⟩:=h.at_;⟨r,a,s _ _ b⟩,h.len,h.pos,h.lt,h.nd,h.tied⟩
def PairAt(H:Hp)(es:List (Nat×Nat))(v:V):Prop:=∃(u:Addr)(i j:Nat),v= .ref u/\H u=some (.tup [.int (i:Int),.int (j:Int)])/\i<j/\j<es.length/\nrm (es.getD i (0,0))=nrm (es.getD j (0,0))
theorem PairAt.same{es}{v}(h:PairAt H es v)(s:Same H H'):PairAt H' es v:=
 let⟨u,i,j,a,b,c⟩:=h;⟨u,i,j,a,s _ _ b,c⟩
def AkP(at':Nat)(cR cP:Addr)(H:Hp)(es:List (Nat×Nat))(n:Nat)(R:Hp->Prop)(E:XK):Prop:=
 (at'=1->¬Two es->∀H' dx v rg m,Same H H'->H' dx=none->RingAt H' es n v rg m->E (.ref cR) (some dx) (upd H' dx (.xd [("ring",v)])))/\
 (at'=2->ZdX es->∀H' dx v,Same H H'->H' dx=none->PairAt H' es v->E (.ref cP) (some dx) (upd H' dx (.xd [("pair",v)])))/\
 ((at'=1->Two es)->(at'=2->¬ZdX es)->∀H',Same H H'->R H')
theorem AkP.same{es}{n}{R}{E}(h:AkP at' cR cP H es n R E)(s:Same H H1):AkP at' cR cP H1 es n R E:=
 ⟨fun a b d e v f m c=>h.1 a b d e v f m (Same.trans s c),fun a b d e v c=>h.2.1 a b d e v (Same.trans s c),fun a b d c=>h.2.2 a b d (Same.trans s c)⟩
structure GrF(P:Program)(w:World)(K:PySem.W.Frag)(mg:Str->Option Value)(base:Heap)(x f:Str)(C:Addr):Prop where
 ex:∃D fI fdI,RX.XCl K C D/\PySem.W.findIn K (.ref C) "__init__"=some (some (.ref fI))/\PySem.W.isFn K (.ref fI)=true/\FnOk P w K mg base CX0 1 fI fdI ["self",f] (RX.Zby C f)/\L2.Binds K fdI ["self",f] []
 g:mg x=some (.ref C)
section
variable{P:Program}{w:World}{K:PySem.W.Frag}{mg:Str->Option Value}{base:Heap}{cR cP cT:Addr}
abbrev sIr:Stmt:=inClass (top 23) 0
theorem Zn2:Zm ["self","ring"] ["self","ring"] (Zg sIr):=⟨rfl,rfl,rfl,by decide+kernel,rfl,by decide+kernel,by decide+kernel⟩
theorem Zmi{f C D}{fd}(F:Fun K "__init__" "NotTwoSided.__init__" sIr f fd)(c:RX.XCl K C D)(hn:PySem.W.findIn K (.ref C) "ring"=some none):FnOk P w K mg base CX0 1 f fd ["self","ring"] (RX.Zby C "ring"):=by
 refine F.ok Zn2 (fun g H Q E h=>?_) (fun _ A _ s H g Q E _ h=>?_)
 ·obtain⟨e,a,y,rfl,_⟩:=h
  rfl
 ·obtain⟨e,a,y,rfl,i,q⟩:=h
  exact⟨_,Zf (RX.ZeZ (pv 0) (pv 1) rfl),_,rfl,_,rfl,e,C,D,a,rfl,i,c,hn,fun j d b=>q j d b⟩
abbrev sIp:Stmt:=inClass (top 24) 0
theorem Zn3:Zm ["self","pair"] ["self","pair"] (Zg sIp):=⟨rfl,rfl,rfl,by decide+kernel,rfl,by decide+kernel,by decide+kernel⟩
theorem Zmj{fd}(F:Fun K "__init__" "NotPlain.__init__" sIp f fd)(c:RX.XCl K C D)(hn:PySem.W.findIn K (.ref C) "pair"=some none):FnOk P w K mg base CX0 1 f fd ["self","pair"] (RX.Zby C "pair"):=by
 refine F.ok Zn3 (fun g H Q E h=>?_) (fun _ A _ s H g Q E _ h=>?_)
 ·obtain⟨e,a,y,rfl,_⟩:=h
  rfl
 ·obtain⟨e,a,y,rfl,i,q⟩:=h
  exact⟨_,Zf (RX.ZeZ (pv 0) (pv 1) rfl),_,rfl,_,rfl,e,C,D,a,rfl,i,c,hn,fun j d b=>q j d b⟩
abbrev sLp:Stmt:=top 44
abbrev nLp:List Str:=["net","first","tie","ends","pair"]
inductive spLp(vs:List V)(H:Hp)(Q:VK)(_z3:XK):Prop
 |mk (p n q ts es:_) (_:vs=[.ref p]) (_:NetZ H p n q ts es) (_:(¬ZdX es->∀H',Same H H'->Q .non H')) (_:(∀H' v,Same H H'->PairAt H' es v->Q v H'))
theorem scLp:Zm nLp ["net"] (Zg sLp):=⟨rfl,rfl,rfl,by decide+kernel,rfl,by decide+kernel,by decide+kernel⟩
theorem Zme(F:Fun K "like_pair" "like_pair" sLp f fd)(T:Bi mg)(hen:mg "enumerate"=none):FnOk P w K mg base CX0 1 f fd ["net"] spLp:=by
 refine F.ok scLp (fun vs H Q E h=>?_) (fun cdv A outer s H vs Q E hr h=>?_)
 ·obtain⟨p,n,q,ts,es,rfl,_⟩:=h
  rfl
 ·obtain⟨p,n,qa,ts,es,rfl,N,q0,q1⟩:=h
  have hu:=Zc3 hr;refine⟨_,Zb (Zl (i:=1) scLp.nd rfl (Or.inl rfl) Zb8)
   (Zb (ZG QD rfl (ZcS rfl hen (Zc (Zk Zj (pv 0) Ze (fun _ _=>rfl)) Za) rfl) (ZaC rfl (ZP (Zu (i:=2) scLp.nd rfl (Or.inl rfl)) (ZP (Zu (i:=3) scLp.nd rfl (Or.inl rfl)) Ji)))
    (Zb (Zl (i:=4) scLp.nd rfl (Or.inl rfl) (Z1 (Zc (Zo (Zc9 rfl) rfl T.min ZmW (Zc (pv 3) Za)) (Zc (Zo (ZaR rfl) rfl T.max ZhU (Zc (pv 3) Za)) Za))))
    (Zb (Z2 (J1 (Zey hu (pv 4) (pv 1))) (Zf (Zn (Z1 (Zc (Zaq hu (pv 1) (pv 4) (fun _ _=>rfl)) (Zc (pv 2) Za))))) Zw)
    (Zf (Jh hu (pv 1) (pv 4) (pv 2) rfl)))))
   (Zf (Zn ZH))),?_⟩
  have h200:=N.l200;have hlen:=N.len;intro d hd;have s0:Same H (upd H d (.dT [])):=Zh hd;refine⟨_,rfl,p,_,_,_,rfl,rfl,SqT.of (s0 _ _ N.e1),rfl,qa,rfl,⟨_,SqT.of (s0 _ _ N.e2)⟩,ZdM (K:=K) (a:=qa) (xs:=ts) (fun i σ G=>E4 fun l v2 v3 v4=>σ=[some (.ref p),some (.ref d),v2,v3,v4]/\Same H G/\G d=some (.dT l)/\l.length<=i/\(∀j,j<i->∃v,ZD l (ky (nrm (es.getD j (0,0))).1 (nrm (es.getD j (0,0))).2)=some v)/\(∀a b v,ZD l (ky a b)=some v->∃j,j<i/\v= .int (j:Int)/\nrm (es.getD j (0,0))=(a,b))/\(∀j k,j<k->k<i->nrm (es.getD j (0,0))≠nrm (es.getD k (0,0))))
   ⟨[],_,_,_,rfl,s0,Zd,Qe _,(fun j hj=>absurd hj (QK _)),(fun a b v z=>by cases z),fun j k _ hk=>absurd hk (QK _)⟩ (fun i σ G _⟨l,_,_,_,_,sG,_⟩=>SqT.of (sG _ _ N.e2)) (fun i x σ G hx xq1 TT G1 s1 hTT=>?_) (fun σ G xq1=>?_)⟩
  ·obtain⟨l,v2,v3,v4,e,sG,hD,hkv,hK1,hK2,hK3⟩:=xq1
   subst e;have hi:i<es.length:=by rw[<-hlen];exact(Qd.mp hx).1
   obtain⟨a,rfl,ha⟩:=N.tie i x hx;have sG1:=Same.trans sG s1;refine⟨TT,_,rfl,SqT.of hTT,rfl,_,_,rfl,_,_,rfl,rfl,?_⟩;obtain⟨g,hA⟩:∃g,(es.getD i (0,0)).1=g:=⟨_,rfl⟩;obtain⟨c,hB⟩:∃c,(es.getD i (0,0)).2=c:=⟨_,rfl⟩;rw[hA,hB]at ha;have hn:nrm (es.getD i (0,0))=(min g c,max g c):=by unfold nrm;rw[hA,hB]
   refine⟨_,rfl,a,[(g:Int),(c:Int)],rfl,.inr (SqT.of (sG1 _ _ ha)),(by show 0<2;decide),fun M1 m1 m2=>⟨_,rfl,a,[(g:Int),(c:Int)],rfl,.inr (SqT.of (sG1 _ _ ha)),(by show 0<2;decide),fun M2 m3 m4=>?_⟩⟩;have e1:M1=((min g c:Nat):Int):=by
    have h1:=m2 (g:Int) (.head _);have h2:=m2 (c:Int) (.tail _ (.head _));simp[Qn,Qt,Q3]at m1;omega
   have e2:M2=((max g c:Nat):Int):=by
    have h1:=m4 (g:Int) (.head _);have h2:=m4 (c:Int) (.tail _ (.head _));simp[Qn,Qt,Q3]at m3;omega
   subst e1 e2;refine⟨rfl,fun u G2 s2 hu'=>?_⟩;have sG2:=Same.trans sG1 s2;have hD2:=s2 _ _ (s1 _ _ hD);refine⟨_,rfl,_,rfl,d,_,rfl,DGet.t (k:=ky (min g c) (max g c)) hD2 hu',_,rfl,?_⟩;cases hv:ZD l (ky (min g c) (max g c))with
   |some v=>
    obtain⟨j,hj,rfl,hnj⟩:=hK2 _ _ _ hv;have hg:=DGet.t (k:=ky (min g c) (max g c)) hD2 hu';rw[hv]at hg;exact Yi ⟨_,rfl,_,rfl,d,_,rfl,hg,_,rfl,rfl,fun t G3 s3 ht=>(q1 G3 (.ref t) (Same.trans sG2 s3) ⟨t,j,i,rfl,ht,hj,hi,by rw[hnj,hn]⟩)⟩
   |none=>
    have l1:=ZT l (ky (min g c) (max g c)) (V.int (i:Int));refine ZA ⟨_,rfl,_,rfl,_,rfl,d,_,rfl,DPut.t (k:=ky (min g c) (max g c)) hD2 hu' (by rw[QP];omega),_,_,_,_,rfl,sG2.wr hd,Zd,by omega,fun j hj=>?_,fun a' b' v hv'=>?_,fun j k hjk hk=>?_⟩
    ·rw[Yp]
     split
     ·exact⟨_,rfl⟩
     ·next hne=>
      rcases Ug.mp hj with z|z
      ·exact hK1 j z
      ·subst z
       exact absurd (by rw[hn]) hne
    ·rw[Yp]at hv'
     split at hv'
     ·next he=>
      cases hv'
      obtain⟨z1,z2⟩:=Zho he;exact⟨i,Q7 _,rfl,by rw[hn,z1,z2]⟩
     ·obtain⟨j,z1,z2,z3⟩:=hK2 _ _ _ hv'
      exact⟨j,by omega,z2,z3⟩
    ·rcases Ug.mp hk with z|z
     ·exact hK3 j k hjk z
     ·subst z
      intro he;obtain⟨v,hv2⟩:=hK1 j hjk;rw[he,hn,hv]at hv2;cases hv2
  ·obtain⟨l,v2,v3,v4,e,sG,hD,hkv,hK1,hK2,hK3⟩:=xq1
   subst e;rw[hlen]at hK3;refine q0 (fun⟨i,j,h1,h2,h3⟩=>hK3 i j h1 h2 h3) G sG
abbrev Zl6:Stmt:=inClass (top 56) 1
abbrev Zl7:Stmt:=inClass (top 49) 1
inductive ZgE(at':Nat)(cR cP:Addr)(vs:List V)(H:Hp)(Q:VK)(E:XK):Prop
 |mk (s p n q ts es:_) (_:vs=[.ref s,.ref p]) (_:NetZ H p n q ts es) (_:AkP at' cR cP H es n (Q .non) E)
theorem scAkT:Zm ["self","net","told"] ["self","net"] (Zg Zl6):=⟨rfl,rfl,rfl,by decide+kernel,rfl,by decide+kernel,by decide+kernel⟩
theorem scAkP:Zm ["self","net","pair"] ["self","net"] (Zg Zl7):=⟨rfl,rfl,rfl,by decide+kernel,rfl,by decide+kernel,by decide+kernel⟩
theorem Zk7(F:Fun K "asked" "TwoSided.asked" Zl6 f fd)(G:GrF P w K mg base "NotTwoSided" "ring" cR)(FS:FnE P w K mg base "sides" ["net"] 2 Sd.spSd):FnOk P w K mg base (RX.CXe P w) 3 f fd ["self","net"] (ZgE 1 cR cP):=by
 obtain⟨D,fI,fdI,c,hi,hfn,FI,hb⟩:=G.ex;refine RX.Zfx (k:=2) F scAkT (fun vs H Q E h=>?_) (fun cdv A outer s H vs Q E hr h=>?_)
 ·obtain⟨s,p,n,q,ts,y,rfl,_⟩:=h
  rfl
 ·obtain⟨sf,p,n,qa,ts,y,rfl,N,q1,_,q3⟩:=h
  refine⟨_,Zb (PS.nox (Zl (i:=2) scAkT.nd rfl (Or.inl rfl) (Zs FS (show Room 2 _ from hr.mono (by omega)) (Zc (pv 1) Za)))) (Zb (Z2 (PT.nox (Zp ZK (Zk Zj (pv 2) Ze (fun _ _=>rfl)) ZM (Zx _))) (Zf (RX.Zcs c hi hfn FI hr hb rfl G.g (Zc (Zk Zj (pv 2) Ze (fun _ _=>rfl)) Za) rfl rfl rfl (fun _ _ h=>h))) Zw) (Zf (Zn ZH))),_,rfl,p,n,qa,ts,y,rfl,⟨N.e1,N.e2,N.len,N.tie,N.l200,N.n60,N.ok⟩,fun H' t r B s' ht o ho _=>?_,fun H' t r d a b m s' ht o _ _ _ u=>?_⟩
  ·refine⟨_,rfl,t,_,_,_,rfl,rfl,SqT.of ht,rfl,rfl,_,rfl,Z3 (fun z=>absurd (Qr z) Zb1) (fun _=>(q3 (fun _=>?_) (fun z=>absurd z (by decide)) H' s'))⟩
   obtain⟨V0,rt,O⟩:=ho;refine⟨fun x=>decide (B x=some 0),fun e he=>?_⟩;obtain⟨k,hk⟩:=UM he;have hk1:=(Qd.mp hk).1;have l:y.getD k (0,0)=e:=by grind
   have v:=(Sd.mem_adjF y e.1 e.2 y.length).mpr ⟨k,hk1,.inl ⟨by rw[l],by rw[l]⟩⟩;have hV:=O.all e.1 (N.ok e he).1;obtain⟨hV2,hne⟩:=O.shut.cl _ hV _ v;rcases O.bit _ hV with z1|z1<;>rcases O.bit _ hV2 with z2|z2
   ·grind
   ·grind
   ·grind
   ·simp_all
  ·refine⟨_,rfl,t,_,_,_,rfl,rfl,SqT.of ht,rfl,rfl,_,rfl,Yi ⟨_,rfl,t,_,_,_,rfl,rfl,SqT.of ht,rfl,_,rfl,fun dx hdx=>(q1 rfl (fun⟨col,hc⟩=>Zd9 (col:=col) fun k hk=>ZfA hc (u.2.2.2 k hk)) H' dx (.ref r) (Sd.ring (Sd.parOf d) a b m) m s' hdx ⟨⟨r,rfl,o⟩,Sd.ring_len _ _ _ _,u.1,u.2.1,u.2.2.1,u.2.2.2⟩)⟩⟩
theorem Zk8(F:Fun K "asked" "Plain.asked" Zl7 f fd)(G:GrF P w K mg base "NotPlain" "pair" cP)(FL:FnE P w K mg base "like_pair" ["net"] 1 spLp):FnOk P w K mg base (RX.CXe P w) 3 f fd ["self","net"] (ZgE 2 cR cP):=by
 obtain⟨D,_,_,c,L,b,x,I⟩:=G.ex;refine RX.Zfx F scAkP (fun M H Q E h=>?_) (fun _ A _ s H M Q E m h=>?_)
 ·obtain⟨s,p,n,q,k,r,rfl,_⟩:=h
  rfl
 ·obtain⟨_,p,n,S,k,r,rfl,N,_,y,R⟩:=h
  refine⟨_,Zb (PS.nox (Zl (i:=2) scAkP.nd rfl (Or.inl rfl) (Zs FL (show Room 1 _ from m.mono (by simp)) (Zc (pv 1) Za)))) (Zb (Z2 (PT.nox (Zp Zas (pv 2) ZH (Zx _))) (Zf (RX.Zcs c L b x m I rfl G.g (Zc (pv 2) Za) rfl rfl rfl (fun _ _ h=>h))) Zw) (Zf (Zn ZH))),_,rfl,p,n,S,k,r,rfl,N,fun C a e=>?_,fun a v e B=>?_⟩
  ·exact⟨_,rfl,rfl,_,rfl,ZA (R (fun z=>absurd z (by decide)) (fun _=>C) a e)⟩
  ·obtain⟨u,i,j,rfl,J,t,l,o⟩:=B
   exact⟨_,rfl,rfl,_,rfl,Yi ⟨_,rfl,_,rfl,fun O d=>(y rfl ⟨i,j,t,l,o⟩ a O (.ref u) e d ⟨u,i,j,rfl,J,t,l,o⟩)⟩⟩
end
noncomputable def putF(es:List (Nat×Nat))(tl:List (Option Nat))(k m:Nat):List Stp:=
 if 0<(both es tl (es.getD k (0,0)).1 (es.getD k (0,0)).2 m).length then[.tint k ((both es tl (es.getD k (0,0)).1 (es.getD k (0,0)).2 m).getD 0 0)]else roomF es tl k m
theorem Ziy{k m n M}(ok:∀e∈es,e.1<n/\e.2<n/\e.1≠e.2) (pl:YK es) (hC:CleanTo es tl es.length) (hl:tl.length=es.length) (hk:k<es.length) (hb:tl[k]?=some none) (hM:∀x,x<n->dg es es.length x<=M) (hm:M<m):Zic es tl k m n (putF es tl k m):=by
 unfold putF;split
 ·rename_i d
  obtain⟨f,g,c⟩:=both_mem.mp (head_mem d);have b:=Ya hC hl hk g c;refine⟨⟨_,.cons (s:= .tint k _) ⟨hk,f⟩ rfl b .nil,by grind,b,⟨_,by rw[Qy,if_pos rfl,if_pos (by omega)]⟩,fun j a=>by rw[Qy,if_neg (fun z=>a z.symm)],[],QE _,fun j a z=>absurd (by rw[Qy,if_neg (fun z=>a z.symm)]) z⟩,?_⟩;show 1<=_;simp
 ·exact Ziu ok pl hC hl hk hb hM hm
theorem PairAt.twin(h:PairAt H es v):ZdX es:=let⟨_,i,j,_,_,a,b,c⟩:=h;⟨i,j,a,b,c⟩
theorem nrm_oth:nrm e=nrm d↔∃x,At e x/\At d x/\oth e x=oth d x:=by
 obtain⟨a,b⟩:=e;obtain⟨c,d⟩:=d;unfold nrm At oth;simp only[Prod.mk.injEq];constructor
 ·intro ⟨_,_⟩
  refine⟨a,.inl rfl,?_⟩
  grind
 ·grind
theorem plain_twin:YK es↔¬ZdX es:=by
 constructor
 ·rintro f ⟨i,j,_,l,k⟩
  obtain⟨x,a,b,c⟩:=nrm_oth.mp k;exact f i j (by omega) l (by omega) x a b c
 ·intro d i j m g h x a b c
  have e:=nrm_oth.mpr ⟨x,a,b,c⟩;rcases Nat.lt_or_gt_of_ne h with z|z
  ·exact d ⟨i,j,z,g,e⟩
  ·exact d ⟨j,i,z,m,e.symm⟩
section
variable{P:Program}{w:World}{K:PySem.W.Frag}{mg:Str->Option Value}{base:Heap}{cM:Addr}
abbrev ZjP:Stmt:=inClass (top 49) 0
abbrev ZjW:Stmt:=inClass (top 49) 1
abbrev ZjS:Stmt:=inClass (top 49) 2
def spNdF:Sp:=fun vs H Q _=>∃p m,vs=[.ref p,.int m]/\0<=m/\Q (.int (if 0<m then m+1 else 0)) H
theorem Zly:Zm ["self","most"] ["self","most"] (Zg ZjP):=⟨rfl,rfl,rfl,by decide+kernel,rfl,by decide+kernel,by decide+kernel⟩
theorem Zkx(F:Fun K "needed" "Plain.needed" ZjP f fd):FnOk P w K mg base CX0 1 f fd ["self","most"] spNdF:=by
 refine F.ok Zly (fun a H Q E h=>?_) (fun _ A _ s H a Q E _ h=>?_)
 ·obtain⟨p,m,rfl,_⟩:=h
  rfl
 ·obtain⟨p,m,rfl,_,q⟩:=h
  refine⟨_,Zf (Zn (YH (Zp ZgZ (pv 1) Ze (Zx _)) (Zt ZS (pv 1) Ze) Ze)),_,rfl,_,_,rfl,rfl,_,rfl,Z3 (fun z=>?_) (fun z=>?_)⟩
  ·rw[if_pos (Qr z)]at q
   exact⟨_,rfl,_,_,rfl,rfl,q⟩
  ·rw[if_neg (fun y=>z (Qu y))]at q
   exact q
def spAkF:Sp:=fun vs H Q _=>∃s p n q ts es,vs=[.ref s,.ref p]/\NetZ H p n q ts es/\YK es/\∀H',Same H H'->Q .non H'
theorem scAkF:Zm ["self","net","pair"] ["self","net"] (Zg ZjW):=⟨rfl,rfl,rfl,by decide+kernel,rfl,by decide+kernel,by decide+kernel⟩
theorem Zk9(F:Fun K "asked" "Plain.asked" ZjW f fd)(FL:FnE P w K mg base "like_pair" ["net"] 1 spLp):FnOk P w K mg base CX0 2 f fd ["self","net"] spAkF:=by
 refine F.ok scAkF (fun j H Q E h=>?_) (fun _ A _ s H j Q E l h=>?_)
 ·obtain⟨s,p,n,q,a,b,rfl,_⟩:=h
  rfl
 ·obtain⟨s,p,n,e,a,b,rfl,N,g,q⟩:=h
  exact⟨_,Zb (Zl (i:=2) scAkF.nd rfl (Or.inl rfl) (Zs FL l (Zc (pv 1) Za)))
   (Zb (Z2 (Zp Zas (pv 2) ZH (Zx _)) ZO Zw)
   (Zf (Zn ZH))),_,rfl,p,n,e,a,b,rfl,N,fun _ c d=>⟨_,rfl,rfl,_,rfl,ZA (q c d)⟩,fun c v _ k=>absurd k.twin (plain_twin.mp g)⟩
structure RmF(H:Hp)(p r:Addr)(n:Nat)(q:Addr)(ts:List V)(es:List (Nat×Nat))(tl:List (Option Nat))(k m:Nat):Prop where
 N:NetZ H p n q ts es
 hR:H r=some (.tup (tv tl))
 len:tl.length=es.length
 hk:k<es.length
 hb:tl[k]?=some none
 hC:CleanTo es tl es.length
 hm:m<=1000
 h64:es.length<64
 pl:YK es
 hM:∃M,(∀x,x<n->dg es es.length x<=M)/\M<m
theorem RmF.same{p r:Addr}{n:Nat}{q:Addr}{ts:List V}{es:List _}{tl:List _}{k m:Nat}(h:RmF H p r n q ts es tl k m)(s:Same H H'):RmF H' p r n q ts es tl k m:=
 ⟨h.N.same s,s _ _ h.hR,h.len,h.hk,h.hb,h.hC,h.hm,h.h64,h.pl,h.hM⟩
theorem RmF.fin(h:RmF H p r n q ts es tl k m):FIn H p r n q ts es tl m:=⟨h.N,h.hR,h.len,h.hm⟩
abbrev ZnW:List Str:=["self","net","tints","tie","many","hub","fan","shared"]
inductive spMrF(vs:List V)(H:Hp)(Q:VK)(_z3:XK):Prop
 |mk (s p r:Addr) (n:Nat) (q:Addr) (ts:List V) (es:List (Nat×Nat)) (tl:List (Option Nat)) (k m:Nat) (_:vs=[.ref s,.ref p,.ref r,.int k,.int m]) (_:RmF H p r n q ts es tl k m) (_:∀H' l,Same H H'->H l=none->ShSt H' l (roomF es tl k m)->Q (.ref l) H')
theorem scMrF:Zm ZnW nMr (Zg ZjS):=⟨rfl,rfl,rfl,by decide+kernel,rfl,by decide+kernel,by decide+kernel⟩
theorem Zk1(F:Fun K "made_room" "Plain.made_room" ZjS f fd)(FFa:FnE P w K mg base "fan_of" ["net","tints","hub","tie","many"] 5 spFa)(FFb:FnE P w K mg base "free_at_both" ["net","tints","one","other","many"] 5 spFb)(FAc:FnE P w K mg base "across" ["net","tie","point"] 5 spAc)(FHn:FnE P w K mg base "handed_on" ["tints","fan","last_tint"] 5 spHn)(FTh:FnE P w K mg base "turned_and_handed_on" ["net","tints","hub","fan","many"] 5 spTh):
  FnOk P w K mg base CX0 6 f fd nMr spMrF:=by
 refine F.ok scMrF (fun vs H Q E h=>?_) (fun cdv A outer s H vs Q E hr h=>?_)
 ·obtain⟨s,p,r,n,q,ts,a,c,k,m,rfl,_⟩:=h
  rfl
 ·obtain⟨sf,p,r,n,qa,ts,a,c,k,m,rfl,I,q⟩:=h
  refine⟨_,Zb (Zl (i:=5) scMrF.nd rfl (Or.inl rfl) (Zk Zj (Zk Zj (Zk Zj (pv 1) Ze (fun _ _=>rfl)) (pv 3) (fun _ _=>rfl)) Ze (fun _ _=>rfl)))
   (Zb (Zl (i:=6) scMrF.nd rfl (Or.inl rfl) (Zs FFa hr (Zc (pv 1) (Zc (pv 2) (Zc (pv 5) (Zc (pv 3) (Zc (pv 4) Za)))))))
   (Zb (Zl (i:=7) scMrF.nd rfl (Or.inl rfl) (Zs FFb hr (Zc (pv 1) (Zc (pv 2) (Zc (pv 5) (Zc (Zs FAc hr (Zc (pv 1) (Zc (Zk Zz (pv 6) (J7 YE Ze) (fun _ _=>rfl)) (Zc (pv 5) Za)))) (Zc (pv 4) Za)))))))
   (Zb (Z2 (YU (pv 7) (fun _=>rfl)) (Zf (Zn (Zs FHn hr (Zc (pv 2) (Zc (pv 6) (Zc (Zk Zj (pv 7) Ze (fun _ _=>rfl)) Za)))))) Zw)
   (Zf (Zn (Zs FTh hr (Zc (pv 1) (Zc (pv 2) (Zc (pv 5) (Zc (pv 6) (Zc (pv 4) Za))))))))))),?_⟩
  have N:=I.N;have hk:=I.hk;have h64:=I.h64;obtain⟨tk,htk,hta⟩:=N.at' hk;obtain⟨g,hst⟩:=ZeA (hub:=(a.getD k (0,0)).1) (k:=k) (m:=m) I.len a.length [k] (FanOk.start hk (.inl rfl)) (by omega);have eF:Ju a c (a.getD k (0,0)).1 m a.length [k]=YA a c k m:=rfl;rw[eF]at g hst;obtain⟨hll,_⟩:=g.at' _ g.lst_in;have hle:=g.le;refine⟨_,rfl,p,_,_,_,rfl,rfl,SqT.of N.e1,rfl,_,rfl,qa,_,_,_,rfl,rfl,SqT.of N.e2,Zv htk,tk,_,_,_,rfl,rfl,SqT.of hta,rfl,_,rfl,_,rfl,_,rfl,_,rfl,_,rfl,p,r,n,qa,ts,a,c,m,(a.getD k (0,0)).1,k,rfl,I.fin,hk,.inl rfl,fun H1 fa s1 h1=>?_⟩;rw[eF]at h1;have I1:=I.same s1;refine⟨_,rfl,_,rfl,_,rfl,_,rfl,_,rfl,_,rfl,fa,_,_,_,rfl,rfl,SqL.of h1,Za5 g.pos,_,rfl,p,n,qa,ts,a,lst (YA a c k m),(a.getD k (0,0)).1,rfl,I1.N,hll,_,rfl,p,r,n,qa,ts,a,c,(a.getD k (0,0)).1,tip a (a.getD k (0,0)).1 (lst (YA a c k m)),m,rfl,I1.N,I1.hR,I.len,I.hm,fun H2 t2 s2 h2=>?_⟩;have d:=Same.trans s1 s2;have I2:=I.same d;by_cases e:0<(both a c (a.getD k (0,0)).1 (tip a (a.getD k (0,0)).1 (lst (YA a c k m))) m).length
  ·have er:roomF a c k m=hnd c ((both a c (a.getD k (0,0)).1 (tip a (a.getD k (0,0)).1 (lst (YA a c k m))) m).getD 0 0) (YA a c k m):=by unfold roomF;rw[if_pos e]
   refine⟨_,rfl,true,.inr (.inl ⟨_,SqT.of h2,?_⟩),Yi ?_⟩
   ·cases hz:both a c (a.getD k (0,0)).1 (tip a (a.getD k (0,0)).1 (lst (YA a c k m))) m with
    |nil=>rw[hz]at e;cases e
    |cons _ _=>rfl
   ·refine⟨_,rfl,_,rfl,_,rfl,t2,_,_,_,rfl,rfl,SqT.of h2,Zv (j:=0) (nl_get (Yc e)),r,fa,c,YA a c k m,_,rfl,I2.hR,s2 _ _ h1,g.pos,by omega,fun i b hi=>?_,fun H3 l s3 n3 h3=>q H3 l (Same.trans d s3) (d.none n3) (by rw[er];exact h3)⟩
    have hil:=(Qd.mp hi).1;obtain⟨t,_,tb,_⟩:=g.seq i _ b (Qb (by omega)) hi;exact⟨t,tb⟩
  ·have er:roomF a c k m=Zbt a c (a.getD k (0,0)).1 m (YA a c k m):=by unfold roomF;rw[if_neg e]
   refine⟨_,rfl,false,.inr (.inl ⟨_,SqT.of h2,?_⟩),ZA ?_⟩
   ·cases hz:both a c (a.getD k (0,0)).1 (tip a (a.getD k (0,0)).1 (lst (YA a c k m))) m with
    |nil=>rfl
    |cons _ _=>exact absurd (by rw[hz];exact Vg _) e
   ·exact⟨_,rfl,_,rfl,_,rfl,_,rfl,_,rfl,p,r,n,qa,ts,a,c,m,(a.getD k (0,0)).1,k,fa,YA a c k m,rfl,I2.fin,h64,s2 _ _ h1,⟨I.pl,I.hC,I.hb,I.hM,(N.ok _ (getD_mem hk)).1,g,e,hst.resolve_left e⟩,fun H3 l s3 n3 h3=>q H3 l (Same.trans d s3) (d.none n3) (by rw[er];exact h3)⟩
end
end My
namespace L2
open PySem PySem.Spec PyProof.Rows
theorem MeE.imp{K}{mg}{base}{C}{x}{ps}{k}{sp sp'}(F:MeE P w K mg base C x ps k sp)(h:∀vs H Q E,sp' vs H Q E->sp vs H Q E):MeE P w K mg base C x ps k sp':=
 let⟨f,c,a,b⟩:=F.ex;⟨f,c,a.imp h,b⟩
end L2

namespace My
open PySem L2
structure WayF where
 ok:List (Nat×Nat)->Prop
 nd:Int->Int
 room:List (Nat×Nat)->List (Option Nat)->Nat->Nat->List Stp
noncomputable def WayF.put(W:WayF)(es:List (Nat×Nat))(tl:List (Option Nat))(k m:Nat):List Stp:=
 if 0<(both es tl (es.getD k (0,0)).1 (es.getD k (0,0)).2 m).length then[.tint k ((both es tl (es.getD k (0,0)).1 (es.getD k (0,0)).2 m).getD 0 0)]else W.room es tl k m
structure RmW(W:WayF)(H:Hp)(p r:Addr)(n:Nat)(q:Addr)(ts:List V)(es:List (Nat×Nat))(tl:List (Option Nat))(k m:Nat):Prop where
 N:NetZ H p n q ts es
 hR:H r=some (.tup (tv tl))
 len:tl.length=es.length
 hk:k<es.length
 hb:tl[k]?=some none
 hC:CleanTo es tl es.length
 hm:m<=1000
 h64:es.length<64
 ho:W.ok es
 hM:∀M,IsMax (dl es n) M->W.nd M<=(m:Int)
def Zbx(W:WayF):Sp:=fun vs H Q _=>∃p m,vs=[.ref p,.int m]/\0<=m/\Q (.int (W.nd m)) H
def Zbz(W:WayF):Sp:=fun vs H Q _=>∃s p n q ts es,vs=[.ref s,.ref p]/\NetZ H p n q ts es/\W.ok es/\∀H',Same H H'->Q .non H'
inductive Zam(W:WayF)(vs:List V)(H:Hp)(Q:VK)(_z3:XK):Prop
 |mk (s p r:Addr) (n:Nat) (q:Addr) (ts:List V) (es:List (Nat×Nat)) (tl:List (Option Nat)) (k m:Nat) (_:vs=[.ref s,.ref p,.ref r,.int k,.int m]) (_:RmW W H p r n q ts es tl k m) (_:¬0<(both es tl (es.getD k (0,0)).1 (es.getD k (0,0)).2 m).length) (_:∀H' l,Same H H'->H l=none->ShSt H' l (W.room es tl k m)->Q (.ref l) H')
def ZgC(W:WayF)(C:Addr):Sp:=fun vs H Q _=>∃(s p r:Addr)(n:Nat)(q:Addr)(ts:List V)(es:List (Nat×Nat))(tl:List (Option Nat))(k m:Nat)(dx:Addr),vs=[.ref s,.ref p,.ref r,.int k,.int m]/\H s=some (.ins C dx [])/\RmW W H p r n q ts es tl k m/\
 ∀H' l,Same H H'->H l=none->ShSt H' l (W.put es tl k m)->Q (.ref l) H'
section
variable{P:Program}{w:World}{K:PySem.W.Frag}{mg:Str->Option Value}{base:Heap}{cM:Addr}{W:WayF}
theorem RmW.same{p r:Addr}{n:Nat}{q:Addr}{ts:List V}{es:List _}{tl:List _}{k m:Nat}(h:RmW W H p r n q ts es tl k m)(s:Same H H'):RmW W H' p r n q ts es tl k m:=
 ⟨h.N.same s,s _ _ h.hR,h.len,h.hk,h.hb,h.hC,h.hm,h.h64,h.ho,h.hM⟩
abbrev ZfL:Stmt:=inClass (top 27) 2
abbrev ZnV:List Str:=["self","net","tints","tie","many","need","ends","shared"]
theorem scPut:Zm ZnV ["self","net","tints","tie","many"] (Zg ZfL):=⟨rfl,rfl,rfl,by decide+kernel,rfl,by decide+kernel,by decide+kernel⟩
theorem Zbf(F:Fun K "put" "Way.put" ZfL f fd)(T:Bi mg)(FBl:FnE P w K mg base "is_below" ["thing","bound"] 6 spBel)(FMo:FnE P w K mg base "most_of" ["net"] 6 spMo)(FFb:FnE P w K mg base "free_at_both" ["net","tints","one","other","many"] 6 spFb)
  (MN:MeE P w K mg base cM "needed" ["self","most"] 6 (Zbx W))(MA:MeE P w K mg base cM "asked" ["self","net"] 6 (Zbz W))(MR:MeE P w K mg base cM "made_room" nMr 6 (Zam W)):FnOk P w K mg base CX0 7 f fd ["self","net","tints","tie","many"] (ZgC W cM):=by
 refine F.ok scPut (fun vs H Q E h=>?_) (fun cdv A outer s H vs Q E hr h=>?_)
 ·obtain⟨s,p,r,n,q,ts,es,tl,k,m,dx,rfl,_⟩:=h
  rfl
 ·obtain⟨sf,p,r,n,qa,ts,es,tl,k,m,dx,rfl,hs,I,q⟩:=h
  refine⟨_,Zb (Z2 (PW.pt (pw_or (Yq (Yb (Zs FBl hr (Zc (pv 3) (Zc (Zo Zr rfl T.len Yv (Zc (Zk Zj (pv 1) Ze (fun _ _=>rfl)) Za)) Za))))) (pw_or1 (Zp Zas (Zk Zj (pv 2) (pv 3) (fun _ _=>rfl)) ZH (Zx _))))) ZO Zw)
   (Zb (ZF (Zct MA hr (pv 0) (Zc (pv 1) Za)))
   (Zb (Zl (i:=5) scPut.nd rfl (Or.inl rfl) (Zct MN hr (pv 0) (Zc (Zs FMo hr (Zc (pv 1) Za)) Za)))
   (Zb (Z2 (Zp ZaX (pv 4) (pv 5) (Zx _)) ZO Zw)
   (Zb (Zl (i:=6) scPut.nd rfl (Or.inl rfl) (Zk Zj (Zk Zj (pv 1) Ze (fun _ _=>rfl)) (pv 3) (fun _ _=>rfl)))
   (Zb (Zl (i:=7) scPut.nd rfl (Or.inl rfl) (Zs FFb hr (Zc (pv 1) (Zc (pv 2) (Zc (Zk Zj (pv 6) Ze (fun _ _=>rfl)) (Zc (Zk Zj (pv 6) Ze (fun _ _=>rfl)) (Zc (pv 4) Za)))))))
   (Zb (Z2 (YU (pv 7) (fun _=>rfl)) (Zf (Zn (ZI (Zc (ZcT (Zc ZM (Zc (pv 3) (Zc (Zk Zj (pv 7) Ze (fun _ _=>rfl)) Za)))) Za)))) Zw)
   (Zf (Zn (Zct MR hr (pv 0) (Zc (pv 1) (Zc (pv 2) (Zc (pv 3) (Zc (pv 4) Za))))))))))))),?_⟩
  have N:=I.N;have hlen:=N.len;have hk:=I.hk;refine⟨_,rfl,_,rfl,p,_,_,_,rfl,rfl,SqT.of N.e1,rfl,qa,_,rfl,.inr (SqT.of N.e2),(k:Int),_,rfl,by omega,by omega,_,rfl,ZA ⟨_,rfl,_,rfl,r,_,_,_,rfl,rfl,SqT.of I.hR,Zv (ZaB I.hb),rfl,_,rfl,ZA ⟨_,rfl,sf,dx,_,rfl,hs,rfl,_,rfl,sf,p,n,qa,ts,es,rfl,N,I.ho,fun H0 s0=>?_⟩⟩⟩;have I0:=I.same s0;refine⟨_,rfl,sf,dx,_,rfl,s0 _ _ hs,rfl,_,rfl,p,n,qa,ts,es,rfl,I0.N,fun H1 M s1' hMx=>⟨sf,M,rfl,(Zav hMx).1,?_⟩⟩;have s1:=Same.trans s0 s1';have hg:=I.hM M hMx;have I1:=I.same s1;refine⟨_,rfl,_,rfl,_,_,rfl,rfl,_,rfl,Z3 (fun z=>absurd (Qr z) (by omega)) (fun _=>?_)⟩;obtain⟨tk,htk,hta⟩:=I1.N.at' hk;refine⟨_,rfl,p,_,_,_,rfl,rfl,SqT.of I1.N.e1,rfl,_,rfl,qa,_,_,_,rfl,rfl,SqT.of I1.N.e2,Zv htk,_,rfl,_,rfl,_,rfl,tk,_,_,_,rfl,rfl,SqT.of hta,rfl,_,rfl,tk,_,_,_,rfl,rfl,SqT.of hta,rfl,_,rfl,p,r,n,qa,ts,es,tl,(es.getD k (0,0)).1,(es.getD k (0,0)).2,m,rfl,I1.N,I1.hR,I.len,I.hm,fun H2 t s2 ht=>?_⟩;have s12:=Same.trans s1 s2;by_cases h0:0<(both es tl (es.getD k (0,0)).1 (es.getD k (0,0)).2 m).length
  ·have ep:W.put es tl k m=[.tint k ((both es tl (es.getD k (0,0)).1 (es.getD k (0,0)).2 m).getD 0 0)]:=by unfold WayF.put;rw[if_pos h0]
   refine⟨_,rfl,true,.inr (.inl ⟨_,SqT.of ht,?_⟩),Yi ?_⟩
   ·cases hz:both es tl (es.getD k (0,0)).1 (es.getD k (0,0)).2 m with
    |nil=>rw[hz]at h0;cases h0
    |cons _ _=>rfl
   ·refine⟨_,rfl,_,rfl,t,_,_,_,rfl,rfl,SqT.of ht,Zv (j:=0) (nl_get (Yc h0)),(by show 3<=sizeLine;decide),fun u hu=>⟨(by show 1<=sizeLine;decide),fun l hl=>?_⟩⟩
    have s3:=Same.trans s12 (Zh (o:= .tup [.str "tint",.int (k:Int),.int (((both es tl (es.getD k (0,0)).1 (es.getD k (0,0)).2 m).getD 0 0:Nat):Int)]) hu);refine q _ l (Same.trans s3 (Zh hl)) (s3.none hl) ?_;rw[ep];refine⟨[(u,_)],Zd,rfl,fun x hx=>?_⟩;rw[Qf.mp hx];exact Zh hl _ _ Zd
  ·have ep:W.put es tl k m=W.room es tl k m:=by unfold WayF.put;rw[if_neg h0]
   refine⟨_,rfl,false,.inr (.inl ⟨_,SqT.of ht,?_⟩),ZA ?_⟩
   ·cases hz:both es tl (es.getD k (0,0)).1 (es.getD k (0,0)).2 m with
    |nil=>rfl
    |cons _ _=>exact absurd (by rw[hz];exact Vg _) h0
   ·exact⟨_,rfl,sf,dx,_,rfl,s12 _ _ hs,rfl,_,rfl,_,rfl,_,rfl,_,rfl,sf,p,r,n,qa,ts,es,tl,k,m,rfl,I.same s12,h0,fun H3 l s3 n3 h3=>(q H3 l (Same.trans s12 s3) (s12.none n3) (by rw[ep];exact h3))⟩
end
theorem Zod:bootBuiltins "str"=some (.type "str"):=by decide+kernel
section
variable{P:Program}{w:World}{K:PySem.W.Frag}{mg:Str->Option Value}{base:Heap}
abbrev sIt:Stmt:=top 13
inductive spIt(vs:List V)(H:Hp)(Q:VK)(_z3:XK):Prop
 |mk (i:Nat) (_:vs=[.int i]) (_:i<1000) (_:Q (.bl true) H)
theorem Zn0:Zm ["thing"] ["thing"] (Zg sIt):=⟨rfl,rfl,rfl,by decide+kernel,rfl,by decide+kernel,by decide+kernel⟩
theorem Zmg{f}{fd}{tA}(F:Fun K "is_tint" "is_tint" sIt f fd)(mA:mg "ALL_TINTS"=some (.int 1000 tA))(FB:FnE P w K mg base "is_below" ["thing","bound"] 2 spBel):FnOk P w K mg base CX0 3 f fd ["thing"] spIt:=by
 refine F.ok Zn0 (fun a H Q E h=>?_) (fun _ A _ s H a Q E b h=>?_)
 ·obtain⟨i,rfl,_⟩:=h
  rfl
 ·obtain⟨i,rfl,_,q⟩:=h
  exact⟨_,Zf (Zn (Zs FB b (Zc (pv 0) (Zc (Jj (v:= .int 1000) rfl mA ⟨_,rfl⟩) Za)))),_,rfl,i,_,rfl,by simp,by omega,q⟩
abbrev sTs:Stmt:=top 34
inductive spTs(vs:List V)(H:Hp)(Q:VK)(_z3:XK):Prop
 |mk (p u n q ts es pt a b:_) (_:vs=[.ref p,.ref u]) (_:NetZ H p n q ts es) (_:H u=some (.tup (stV (.turn pt a b)))) (_:StOk n es.length 1000 (.turn pt a b)) (_:Q (.bl true) H)
theorem Znu:Zm ["net","thing"] ["net","thing"] (Zg sTs):=⟨rfl,rfl,rfl,by decide+kernel,rfl,by decide+kernel,by decide+kernel⟩
theorem ZlQ{f}{fd}(F:Fun K "is_turn_step" "is_turn_step" sTs f fd)(T:Bi mg)(FB:FnE P w K mg base "is_below" ["thing","bound"] 3 spBel)(FI:FnE P w K mg base "is_tint" ["thing"] 3 spIt):FnOk P w K mg base CX0 4 f fd ["net","thing"] spTs:=by
 refine F.ok Znu (fun vs H Q E h=>?_) (fun _ A _ s H vs Q E d h=>?_)
 ·obtain⟨p,u,n,q,i,es,g,a,b,rfl,_⟩:=h
  rfl
 ·obtain⟨p,u,n,qa,i,es,g,a,b,rfl,N,c,⟨o1,o2,o3,o4⟩,q⟩:=h
  refine⟨_,Zb (Z2 (PW.pt (pw_or (Zp Zcw (Zo Zr rfl T.len Yv (Zc (pv 1) Za)) Ze (Zx _))
      (pw_or1 (Yq (Yb (Zs FB d (Zc (Zk Zj (pv 1) Ze (fun _ _=>rfl)) (Zc (Zk Zj (pv 0) Ze (fun _ _=>rfl)) Za)))))))) (Zf (Zn YV)) Zw)
   (Zf (Zn (Ys (Zs FI d (Zc (Zk Zj (pv 1) Ze (fun _ _=>rfl)) Za)) (Ys (Zs FI d (Zc (Zk Zj (pv 1) Ze (fun _ _=>rfl)) Za)) (YO (Yr Zcw (Zk Zj (pv 1) Ze (fun _ _=>rfl)) (Zk Zj (pv 1) Ze (fun _ _=>rfl)) (Zx _))))))),_,rfl,u,_,rfl,.inr (SqT.of c),rfl,_,rfl,ZA ⟨_,rfl,u,_,_,_,rfl,rfl,SqT.of c,rfl,_,rfl,p,_,_,_,rfl,rfl,SqT.of N.e1,rfl,g,_,rfl,by omega,by omega,_,rfl,ZA ⟨_,rfl,u,_,_,_,rfl,rfl,SqT.of c,rfl,a,rfl,o2,_,rfl,Yi ⟨_,rfl,u,_,_,_,rfl,rfl,SqT.of c,rfl,b,rfl,o3,_,rfl,Yi ⟨_,rfl,u,_,_,_,rfl,rfl,SqT.of c,rfl,_,rfl,u,_,_,_,rfl,rfl,SqT.of c,rfl,rfl,?_⟩⟩⟩⟩⟩
  have e:(!decide (V.int a=V.int b))=true:=by
   grind
  rw[e];exact q
end
theorem Zcp:¬(V.str "tint"=V.str "turn"):=by decide+kernel
section
variable{P:Program}{w:World}{K:PySem.W.Frag}{mg:Str->Option Value}{base:Heap}
abbrev sPc:Stmt:=top 14
abbrev nPc:List Str:=["net","tints","taken","ends","tint","point"]
inductive spPc(vs:List V)(H:Hp)(Q:VK)(_z3:XK):Prop
 |mk (p r n q ts es tl:_) (_:vs=[.ref p,.ref r]) (_:NetZ H p n q ts es) (_:H r=some (.lst (tv tl))) (_:tl.length=es.length) (_:∀H' b,Same H H'->(b=true↔CleanTo es tl es.length)->Q (.bl b) H')
theorem scPc:Zm nPc ["net","tints"] (Zg sPc):=⟨rfl,rfl,rfl,by decide+kernel,rfl,by decide+kernel,by decide+kernel⟩
theorem ZlZ{f}{fd}(F:Fun K "is_clean" "is_clean" sPc f fd)(T:Bi mg):FnOk P w K mg base CX0 1 f fd ["net","tints"] spPc:=by
 refine F.ok scPc (fun vs H Q E h=>?_) (fun cdv A outer s H vs Q E hr h=>?_)
 ·obtain⟨p,r,n,q,ts,l,u,rfl,_⟩:=h
  rfl
 ·obtain⟨p,r,n,qa,ts,l,u,rfl,N,hR,htl,q⟩:=h
  have hu:=Zc3 hr;refine⟨_,Zb (Zl (i:=2) scPc.nd rfl (Or.inl rfl) Zb8)
   (Zb (ZG QD rfl (Zki rfl T.zip (Zc (Zk Zj (pv 0) Ze (fun _ _=>rfl)) (Zc (pv 1) Za)) rfl rfl) (ZaC rfl (ZP (Zu (i:=3) scPc.nd rfl (Or.inl rfl)) (ZP (Zu (i:=4) scPc.nd rfl (Or.inl rfl)) Ji)))
    (Zf (Z2 (Zp Zas (pv 4) ZH (Zx _))
     (Zf (ZG QD rfl (Y8 (pv 3)) (Zu (i:=5) scPc.nd rfl (Or.inl rfl))
      (Zb (Z2 (J1 (Zey hu (Z1 (Zc (pv 5) (Zc (pv 4) Za))) (pv 2))) (Zf (Zn YV)) Zw)
      (Zf (Jh hu (pv 2) (Z1 (Zc (pv 5) (Zc (pv 4) Za))) YV rfl))))) Zw)))
   (Zf (Zn YV))),?_⟩
  have h200:=N.l200;have hlen:=N.len;intro d hd;have s0:Same H (upd H d (.dT [])):=Zh hd;refine⟨_,rfl,p,_,_,_,rfl,rfl,SqT.of (s0 _ _ N.e1),rfl,_,rfl,qa,r,rfl,⟨_,SqT.of (s0 _ _ N.e2)⟩,⟨_,SqL.of (s0 _ _ hR)⟩,ZiU (K:=K) (a:=qa) (c:=r) (xs:=ts) (ys:=tv u) (fun i σ H'=>E4 fun m v3 v4 v5=>σ=[some (.ref p),some (.ref r),some (.ref d),v3,v4,v5]/\Same H H'/\H' d=some (.dT m)/\m.length<=2*i/\CleanTo l u i/\Keys m (Used l u i))
   (by rw[ZaA];omega) ⟨[],_,_,_,rfl,s0,Zd,Qe _,CleanTo.zero _ _,fun p t=>⟨(fun z=>by cases z),fun z=>absurd z Used.zero⟩⟩ (fun i σ H' _⟨m,v3,v4,v5,_,sH,_⟩=>⟨SqT.of (sH _ _ N.e2),SqL.of (sH _ _ hR)⟩) (fun i x y σ H' hx hy xq1 TT H1 s1 hTT=>?_) (fun σ H' xq1=>?_)⟩
  ·obtain⟨m,v3,v4,v5,e,sH,hD,hkv,hC,hK⟩:=xq1
   subst e;have hi:=(Qd.mp hx).1;have hie:i<l.length:=by omega
   obtain⟨o,ho,rfl⟩:=Zea hy;obtain⟨a,rfl,ha⟩:=N.tie i x hx;obtain⟨_,_,ab⟩:=N.ok _ (getD_mem hie);have sH1:=Same.trans sH s1;refine⟨TT,_,rfl,SqT.of hTT,rfl,_,_,rfl,_,_,rfl,rfl,_,rfl,rfl,_,rfl,?_⟩;cases o with
   |none=>
    refine ZA ⟨m,_,_,_,rfl,sH1,s1 _ _ hD,by omega,hC.succ fun t z=>?_,hK.iff fun x t=>?_⟩
    ·rw[ho]at z;cases z
    ·rw[Used.succ,ho]
     exact⟨.inl,fun z=>z.elim id fun⟨z1,_⟩=>by cases z1⟩
   |some t=>
    refine Yi ?_;generalize hA:(l.getD i (0,0)).1=A1 at*;generalize hB:(l.getD i (0,0)).2=B1 at*;have at1:At (l.getD i (0,0)) A1:= .inl hA.symm;have at2:At (l.getD i (0,0)) B1:= .inr hB.symm;refine⟨_,rfl,a,rfl,⟨_,SqT.of (sH1 _ _ ha)⟩,Y5 (K:=K) (a:=a) (xs:=[.int A1,.int B1]) (fun j σ G=>∃g w5,σ=[some (.ref p),some (.ref r),some (.ref d),some (.ref a),some (.int t),w5]/\Same H G/\G d=some (.dT g)/\g.length<=2*i+j/\Keys g (fun x t'=>Used l u i x t'\/(t'=t/\((1<=j/\x=A1)\/(2<=j/\x=B1))))/\(1<=j->¬Used l u i A1 t)/\(2<=j->¬Used l u i B1 t))
     ⟨m,_,rfl,sH1,s1 _ _ hD,by omega,hK.iff fun x t'=>⟨.inl,fun z=>z.elim id fun⟨_,z2⟩=>by omega⟩,(fun z=>by omega),fun z=>by omega⟩ (fun j σ G _⟨g,w5,_,sG,_⟩=>SqT.of (sG _ _ ha)) (fun j x σ G hx' xq1=>?_) (fun σ G xq1=>?_)⟩
    ·obtain⟨g,w5,e,sG,gD,gk,gK,g1,g2⟩:=xq1
     subst e;obtain⟨X1,rfl,hj,hat,hnot,hks,hnew⟩:∃X1:Nat,x= .int X1/\j<2/\At (l.getD i (0,0)) X1/\((Used l u i X1 t\/(t=t/\((1<=j/\X1=A1)\/(2<=j/\X1=B1))))->Used l u i X1 t)/\
       (∀x' t',((Used l u i x' t'\/(t'=t/\((1<=j/\x'=A1)\/(2<=j/\x'=B1))))\/(x'=X1/\t'=t))↔(Used l u i x' t'\/(t'=t/\((1<=j+1/\x'=A1)\/(2<=j+1/\x'=B1)))))/\(¬Used l u i X1 t->(1<=j+1->¬Used l u i A1 t)/\(2<=j+1->¬Used l u i B1 t)):=by
      grind
     refine⟨_,rfl,_,rfl,rfl,fun t1 G1 u1 h1=>⟨_,rfl,d,_,rfl,DGet.t (k:=ky X1 t) (u1 _ _ gD) h1,_,rfl,Z3 (fun hz=>?_) (fun hz=>?_)⟩⟩
     ·exact q G1 false (Same.trans sG u1) ⟨(fun z=>by cases z),fun z=>absurd z (CleanTo.not hie ho hat (hnot ((gK _ _).mp hz)))⟩
     ·have l1:=ZT g (ky X1 t) (V.bl true)
      exact⟨_,rfl,_,rfl,_,rfl,rfl,fun t2 G2 u2 h2=>⟨d,_,rfl,DPut.t (k:=ky X1 t) (u2 _ _ (u1 _ _ gD)) h2 (by rw[QP];omega),_,_,rfl,(Same.trans (Same.trans sG u1) u2).wr hd,Zd,by omega,(gK.put _ _ _).iff hks,hnew fun z=>hz ((gK _ _).mpr (.inl z))⟩⟩
    ·obtain⟨g,w5,e,sG,gD,gk,gK,g1,g2⟩:=xq1
     subst e;refine⟨g,_,_,_,rfl,sG,gD,(by simp[QL,Ur]at gk;omega),hC.succ fun t' z x hx'=>?_,gK.iff fun x t'=>?_⟩
     ·rw[ho]at z
      cases z
      rcases hx' with rfl|rfl
      ·rw[hA];exact g1 (by show 1<=2;decide)
      ·rw[hB];exact g2 (by show 2<=2;decide)
     ·rw[Used.succ,ho]
      constructor
      ·rintro(z|⟨rfl,⟨_,rfl⟩|⟨_,rfl⟩⟩)
       ·exact .inl z
       ·exact .inr ⟨rfl,at1⟩
       ·exact .inr ⟨rfl,at2⟩
      ·rintro(z|⟨z,hx'⟩)
       ·exact .inl z
       ·cases z
        rcases hx' with rfl|rfl
        ·exact .inr ⟨rfl,.inl ⟨by show 1<=2;decide,hA⟩⟩
        ·exact .inr ⟨rfl,.inr ⟨by show 2<=2;decide,hB⟩⟩
  ·obtain⟨m,v3,v4,v5,e,sH,hD,hkv,hC,hK⟩:=xq1
   rw[show ts.length=l.length from hlen]at hC;exact q H' true sH ⟨fun _=>hC,fun _=>rfl⟩
abbrev sTn:Stmt:=top 35
inductive spTn(vs:List V)(H:Hp)(Q:VK)(_z3:XK):Prop
 |mk (p u n q ts es k t:_) (_:vs=[.ref p,.ref u]) (_:NetZ H p n q ts es) (_:H u=some (.tup (stV (.tint k t)))) (_:StOk n es.length 1000 (.tint k t)) (_:Q (.bl true) H)
theorem Znv:Zm ["net","thing"] ["net","thing"] (Zg sTn):=⟨rfl,rfl,rfl,by decide+kernel,rfl,by decide+kernel,by decide+kernel⟩
theorem ZlR{f}{fd}(F:Fun K "is_tint_step" "is_tint_step" sTn f fd)(T:Bi mg)(FB:FnE P w K mg base "is_below" ["thing","bound"] 3 spBel)(FI:FnE P w K mg base "is_tint" ["thing"] 3 spIt):FnOk P w K mg base CX0 4 f fd ["net","thing"] spTn:=by
 refine F.ok Znv (fun g H Q E h=>?_) (fun _ A _ s H g Q E c h=>?_)
 ·obtain⟨p,u,n,q,d,i,k,t,rfl,_⟩:=h
  rfl
 ·obtain⟨p,u,n,j,d,i,k,t,rfl,N,b,⟨_,e⟩,q⟩:=h
  refine⟨_,Zf (Zn (Ys (Yr ZK (Zo Zr rfl T.len Yv (Zc (pv 1) Za)) Ze (Zx _))
   (Ys (Zs FB c (Zc (Zk Zj (pv 1) Ze (fun _ _=>rfl)) (Zc (Zo Zr rfl T.len Yv (Zc (Zk Zj (pv 0) Ze (fun _ _=>rfl)) Za)) Za)))
    (YO (Zs FI c (Zc (Zk Zj (pv 1) Ze (fun _ _=>rfl)) Za)))))),?_⟩
  have _:=N.len;exact⟨_,rfl,u,_,rfl,.inr (SqT.of b),rfl,_,rfl,Z3 (fun _=>⟨_,rfl,u,_,_,_,rfl,rfl,SqT.of b,rfl,_,rfl,p,_,_,_,rfl,rfl,SqT.of N.e1,rfl,j,_,rfl,.inr (SqT.of N.e2),k,_,rfl,by simp,by omega,_,rfl,Yi ⟨_,rfl,u,_,_,_,rfl,rfl,SqT.of b,rfl,t,rfl,e,q⟩⟩) (fun z=>absurd (Qu rfl) z)⟩
end
theorem ZcF:¬(V.str "bare"=V.str "turn"):=by decide+kernel
theorem ZcG:¬(V.str "bare"=V.str "tint"):=by decide+kernel
section
variable{P:Program}{w:World}{K:PySem.W.Frag}{mg:Str->Option Value}{base:Heap}
abbrev sBs:Stmt:=top 36
inductive spBs(vs:List V)(H:Hp)(Q:VK)(_z3:XK):Prop
 |mk (p u n q ts es k:_) (_:vs=[.ref p,.ref u]) (_:NetZ H p n q ts es) (_:H u=some (.tup (stV (.bare k)))) (_:k<es.length) (_:Q (.bl true) H)
theorem Zn5:Zm ["net","thing"] ["net","thing"] (Zg sBs):=⟨rfl,rfl,rfl,by decide+kernel,rfl,by decide+kernel,by decide+kernel⟩
theorem Zmu(F:Fun K "is_bare_step" "is_bare_step" sBs f fd)(T:Bi mg)(FB:FnE P w K mg base "is_below" ["thing","bound"] 3 spBel):FnOk P w K mg base CX0 4 f fd ["net","thing"] spBs:=by
 refine F.ok Zn5 (fun e H Q E h=>?_) (fun _ A _ s H e Q E d h=>?_)
 ·obtain⟨p,u,n,q,c,i,k,rfl,_⟩:=h
  rfl
 ·obtain⟨p,u,n,g,c,i,k,rfl,N,b,_,q⟩:=h
  refine⟨_,Zf (Zn (Ys (Yr ZK (Zo Zr rfl T.len Yv (Zc (pv 1) Za)) Ze (Zx _))
   (YO (Zs FB d (Zc (Zk Zj (pv 1) Ze (fun _ _=>rfl)) (Zc (Zo Zr rfl T.len Yv (Zc (Zk Zj (pv 0) Ze (fun _ _=>rfl)) Za)) Za)))))),?_⟩
  have _:=N.len;exact⟨_,rfl,u,_,rfl,.inr (SqT.of b),rfl,_,rfl,Z3 (fun _=>⟨_,rfl,u,_,_,_,rfl,rfl,SqT.of b,rfl,_,rfl,p,_,_,_,rfl,rfl,SqT.of N.e1,rfl,g,_,rfl,.inr (SqT.of N.e2),k,_,rfl,by simp,by omega,q⟩) (fun z=>absurd (Qu rfl) z)⟩
abbrev sIs:Stmt:=top 37
theorem Zn1:Zm ["net","thing"] ["net","thing"] (Zg sIs):=⟨rfl,rfl,rfl,by decide+kernel,rfl,by decide+kernel,by decide+kernel⟩
inductive spIs(vs:List V)(H:Hp)(Q:VK)(_z3:XK):Prop
 |mk (p u n q ts es st:_) (_:vs=[.ref p,.ref u]) (_:NetZ H p n q ts es) (_:H u=some (.tup (stV st))) (_:StOk n es.length 1000 st) (_:Q (.bl true) H)
theorem Zmh(F:Fun K "is_step" "is_step" sIs f fd)(T:Bi mg)(hst:mg "str"=none)(FT:FnE P w K mg base "is_turn_step" ["net","thing"] 4 spTs)(FN:FnE P w K mg base "is_tint_step" ["net","thing"] 4 spTn)(FB:FnE P w K mg base "is_bare_step" ["net","thing"] 4 spBs):FnOk P w K mg base CX0 5 f fd ["net","thing"] spIs:=by
 refine F.ok Zn1 (fun vs H Q E h=>?_) (fun cdv A outer s H vs Q E hr h=>?_)
 ·obtain⟨p,u,n,q,ts,es,st,rfl,_⟩:=h
  rfl
 ·obtain⟨p,u,n,qa,ts,es,st,rfl,N,d,ok,q⟩:=h
  refine⟨_,Zb (Z2 (PW.pt (pw_or (Yq (Yb (Zo ZU rfl T.isi Zaf (Zc (pv 1) (Zc (YC (v:= .ty "tuple") rfl T.tuple Y2 rfl) Za)))))
    (pw_or (Zp ZK (Zo Zr rfl T.len Yv (Zc (pv 1) Za)) Ze (Zx _))
    (pw_or1 (Yq (Yb (Zo ZU rfl T.isi Zaf (Zc (Zk Zj (pv 1) Ze (fun _ _=>rfl)) (Zc (YC (v:= .ty "str") rfl hst Zod rfl) Za))))))))) (Zf (Zn YV)) Zw)
   (Zb (Z2 (Zp ZK (Zk Zj (pv 1) Ze (fun _ _=>rfl)) ZM (Zx _)) (Zf (Zn (Zs FT hr (Zc (pv 0) (Zc (pv 1) Za))))) Zw)
   (Zb (Z2 (Zp ZK (Zk Zj (pv 1) Ze (fun _ _=>rfl)) ZM (Zx _)) (Zf (Zn (Zs FN hr (Zc (pv 0) (Zc (pv 1) Za))))) Zw)
   (Zf (Zn (Ys (Yr ZK (Zk Zj (pv 1) Ze (fun _ _=>rfl)) ZM (Zx _)) (YO (Zs FB hr (Zc (pv 0) (Zc (pv 1) Za))))))))),?_⟩
  cases st with
  |turn pt a b=>
   exact⟨_,rfl,_,_,_,_,rfl,.tup d,kit K "tuple" "tuple" true (by decide+kernel),_,rfl,ZA ⟨_,rfl,u,_,rfl,.inr (SqT.of d),rfl,_,rfl,ZA ⟨_,rfl,u,_,_,_,rfl,rfl,SqT.of d,rfl,_,_,_,_,rfl,.str _,kit K "str" "str" true (by decide+kernel),_,rfl,ZA ⟨_,rfl,u,_,_,_,rfl,rfl,SqT.of d,rfl,rfl,_,rfl,Z3 (fun _=>⟨_,rfl,_,rfl,p,u,n,qa,ts,es,pt,a,b,rfl,N,d,ok,q⟩) (fun z=>absurd (Qu rfl) z)⟩⟩⟩⟩
  |tint k t=>
   exact⟨_,rfl,_,_,_,_,rfl,.tup d,kit K "tuple" "tuple" true (by decide+kernel),_,rfl,ZA ⟨_,rfl,u,_,rfl,.inr (SqT.of d),rfl,_,rfl,ZA ⟨_,rfl,u,_,_,_,rfl,rfl,SqT.of d,rfl,_,_,_,_,rfl,.str _,kit K "str" "str" true (by decide+kernel),_,rfl,ZA ⟨_,rfl,u,_,_,_,rfl,rfl,SqT.of d,rfl,rfl,_,rfl,Z3 (fun z=>absurd (Qr z) Zcp) (fun _=>⟨_,rfl,u,_,_,_,rfl,rfl,SqT.of d,rfl,rfl,_,rfl,Z3 (fun _=>⟨_,rfl,_,rfl,p,u,n,qa,ts,es,k,t,rfl,N,d,ok,q⟩) (fun z=>absurd (Qu rfl) z)⟩)⟩⟩⟩⟩
  |bare k=>
   exact⟨_,rfl,_,_,_,_,rfl,.tup d,kit K "tuple" "tuple" true (by decide+kernel),_,rfl,ZA ⟨_,rfl,u,_,rfl,.inr (SqT.of d),rfl,_,rfl,ZA ⟨_,rfl,u,_,_,_,rfl,rfl,SqT.of d,rfl,_,_,_,_,rfl,.str _,kit K "str" "str" true (by decide+kernel),_,rfl,ZA ⟨_,rfl,u,_,_,_,rfl,rfl,SqT.of d,rfl,rfl,_,rfl,Z3 (fun z=>absurd (Qr z) ZcF) (fun _=>⟨_,rfl,u,_,_,_,rfl,rfl,SqT.of d,rfl,rfl,_,rfl,Z3 (fun z=>absurd (Qr z) ZcG) (fun _=>⟨_,rfl,u,_,_,_,rfl,rfl,SqT.of d,rfl,rfl,_,rfl,Z3 (fun _=>⟨_,rfl,_,rfl,p,u,n,qa,ts,es,k,rfl,N,d,ok,q⟩) (fun z=>absurd (Qu rfl) z)⟩)⟩)⟩⟩⟩⟩
abbrev sDo:Stmt:=top 38
abbrev nDo:List Str:=["net","tints","step","row"]
inductive spDo(vs:List V)(H:Hp)(Q:VK)(_z3:XK):Prop
 |mk (p r u n q ts es tl tE st:_) (_:vs=[.ref p,.ref r,.ref u]) (_:NetZ H p n q ts es) (_:H r=some (.tup (tv tl))) (_:tl.length=es.length) (_:es.length<64) (_:H u=some (.tup (stV st))) (_:StOk n es.length 1000 st) (_:Did es tl st tE) (_:CleanTo es tE es.length) (_:∀H' t,Same H H'->H' t=some (.tup (tv tE))->Q (.ref t) H')
theorem scDo:Zm nDo ["net","tints","step"] (Zg sDo):=⟨rfl,rfl,rfl,by decide+kernel,rfl,by decide+kernel,by decide+kernel⟩
theorem Zmr(F:Fun K "done" "done" sDo f fd)(T:Bi mg)(FI:FnE P w K mg base "is_step" ["net","thing"] 5 spIs)(FT:FnE P w K mg base "turned" ["net","tints","point","one","other"] 5 spTu)(FC:FnE P w K mg base "is_clean" ["net","tints"] 5 spPc):FnOk P w K mg base CX0 6 f fd ["net","tints","step"] spDo:=by
 refine F.ok scDo (fun vs H Q E h=>?_) (fun cdv A outer s H vs Q E hr h=>?_)
 ·obtain⟨p,r,u,n,q,ts,es,e,g,st,rfl,_⟩:=h
  rfl
 ·obtain⟨p,r,u,n,qa,ts,es,e,g,st,rfl,N,hR,htl,h64,j,ok,hd,hCl,q⟩:=h
  refine⟨_,Zb (Z2 (Yq (Yb (Zs FI hr (Zc (pv 0) (Zc (pv 2) Za))))) ZO Zw)
   (Zb (Z2 (Zp ZK (Zk Zj (pv 2) Ze (fun _ _=>rfl)) ZM (Zx _)) (Zf (Zn (Zs FT hr (Zc (pv 0) (Zc (pv 1) (Zc (Zk Zj (pv 2) Ze (fun _ _=>rfl)) (Zc (Zk Zj (pv 2) Ze (fun _ _=>rfl)) (Zc (Zk Zj (pv 2) Ze (fun _ _=>rfl)) Za)))))))) Zw)
   (Zb (Zl (i:=3) scDo.nd rfl (Or.inl rfl) (Z8 Jv rfl T.list ZhV (Zc (pv 1) Za)))
   (Zb (JU (YH (Zp ZK (Zk Zj (pv 2) Ze (fun _ _=>rfl)) ZM (Zx _)) (Zk Zj (pv 2) Ze (fun _ _=>rfl)) ZH) (JV (pv 3) (Zk Zj (pv 2) Ze (fun _ _=>rfl)) Yl))
   (Zb (Z2 (Yq (Yb (Zs FC hr (Zc (pv 0) (Zc (pv 3) Za))))) ZO Zw)
   (Zf (Zn (Z8 Z6 rfl T.tuple Y2 (Zc (pv 3) Za)))))))),_,rfl,_,rfl,p,u,n,qa,ts,es,st,rfl,N,j,ok,_,rfl,ZA ?_⟩
  have hlE:g.length=es.length:=by rw[hd.len];exact htl
  cases st with
  |turn pt a c=>
   refine⟨_,rfl,u,_,_,_,rfl,rfl,SqT.of j,rfl,rfl,_,rfl,Z3 (fun _=>⟨_,rfl,_,rfl,_,rfl,u,_,_,_,rfl,rfl,SqT.of j,rfl,_,rfl,u,_,_,_,rfl,rfl,SqT.of j,rfl,_,rfl,u,_,_,_,rfl,rfl,SqT.of j,rfl,p,r,n,qa,ts,es,e,pt,a,c,rfl,N,hR,htl,h64,fun H' t S s1 ht hS hRT=>q H' t s1 ?_⟩) (fun z=>absurd (Qu rfl) z)⟩;rw[ht,Did.uniq (s:= .turn pt a c) ⟨S,hS,hRT,rfl⟩ hd]
  |tint k t=>
   refine⟨_,rfl,u,_,_,_,rfl,rfl,SqT.of j,rfl,rfl,_,rfl,Z3 (fun z=>absurd (Qr z) Zcp) (fun _=>⟨_,rfl,r,_,rfl,.inr (SqT.of hR),fun d l=>?_⟩)⟩;have s0:Same H (upd H d (.lst (tv e))):=Zh l;have g0:(upd H d (.lst (tv e))) d=some (.lst (tv e)):=Zd;generalize upd H d (.lst (tv e))=H0 at s0 g0;refine⟨_,rfl,u,_,_,_,rfl,rfl,SqT.of (s0 _ _ j),rfl,rfl,_,rfl,Z3 (fun _=>⟨_,rfl,u,_,_,_,rfl,rfl,SqT.of (s0 _ _ j),rfl,_,rfl,_,rfl,u,_,_,_,rfl,rfl,SqT.of (s0 _ _ j),rfl,d,_,k,rfl,rfl,g0,(show k<(tv e).length by rw[ZaA,htl];exact ok.1),?_⟩) (fun z=>absurd (Qu rfl) z)⟩;have e1:(tv e).set k (.int (t:Int))=tv g:=by
    rw[hd,<-ZdZ];rfl
   rw[e1];have s1:Same H (upd H0 d (.lst (tv g))):=s0.wr l;have g1:(upd H0 d (.lst (tv g))) d=some (.lst (tv g)):=Zd;generalize upd H0 d (.lst (tv g))=H1 at s1 g1;refine⟨_,rfl,_,rfl,p,d,n,qa,ts,es,g,rfl,N.same s1,g1,hlE,fun H2 b s2 hb=>⟨_,rfl,?_⟩⟩;have eb:=hb.mpr hCl;subst eb;exact ZA ⟨_,rfl,d,_,rfl,.inl (s2 _ _ g1),fun t' H3 s3 ht=>(q H3 t' (Same.trans (Same.trans s1 s2) s3) ht)⟩
  |bare k=>
   refine⟨_,rfl,u,_,_,_,rfl,rfl,SqT.of j,rfl,rfl,_,rfl,Z3 (fun z=>absurd (Qr z) ZcF) (fun _=>⟨_,rfl,r,_,rfl,.inr (SqT.of hR),fun d l=>?_⟩)⟩;have s0:Same H (upd H d (.lst (tv e))):=Zh l;have g0:(upd H d (.lst (tv e))) d=some (.lst (tv e)):=Zd;generalize upd H d (.lst (tv e))=H0 at s0 g0;refine⟨_,rfl,u,_,_,_,rfl,rfl,SqT.of (s0 _ _ j),rfl,rfl,_,rfl,Z3 (fun z=>absurd (Qr z) ZcG) (fun _=>⟨_,rfl,_,rfl,u,_,_,_,rfl,rfl,SqT.of (s0 _ _ j),rfl,d,_,k,rfl,rfl,g0,(show k<(tv e).length by rw[ZaA,htl];exact ok),?_⟩)⟩;have e1:(tv e).set k .non=tv g:=by
    rw[hd,<-ZdZ];rfl
   rw[e1];have s1:Same H (upd H0 d (.lst (tv g))):=s0.wr l;have g1:(upd H0 d (.lst (tv g))) d=some (.lst (tv g)):=Zd;generalize upd H0 d (.lst (tv g))=H1 at s1 g1;refine⟨_,rfl,_,rfl,p,d,n,qa,ts,es,g,rfl,N.same s1,g1,hlE,fun H2 b s2 hb=>⟨_,rfl,?_⟩⟩;have eb:=hb.mpr hCl;subst eb;exact ZA ⟨_,rfl,d,_,rfl,.inl (s2 _ _ g1),fun t' H3 s3 ht=>(q H3 t' (Same.trans (Same.trans s1 s2) s3) ht)⟩
end
end My
namespace L2
open PySem PySem.Spec PyProof.Rows
structure FunD(K:PySem.W.Frag)(x qual:Str)(st:Stmt)(f:Addr)(fd:FuncData):Prop where
 ex:∃(oc:Value)(od:Option Addr)(dV kV doc pm:Value)(an:Option Addr)(cdv ct:Value)(osl:Array (Option Value)),
  fd=PySem.W.fnOf x qual (JN st) (ZE st) (Zg st) dV kV doc pm an cdv ct/\K.lookup f=some ⟨oc,od,.func fd,osl⟩/\PySem.W.codeIn K cdv qual=true
section
variable{P:Program}{w:World}{K:PySem.W.Frag}{mg:Str->Option Value}{base:Heap}
theorem FunD.ok{x qual}{st}{f}{fd}{N ps:List _}{k}{sp:Sp}(F:FunD K x qual st f fd)(S:Zm N ps (Zg st))(len:∀vs H Q E,sp vs H Q E->vs.length=ps.length)
  (hbody:∀(cdv:Value)(A:Around)(outer:List _)(s:Shared)(H:Hp)(vs:List V)(Q:VK)(E:XK),Room k (A.deeper (envOfC qual (Zg st) s.heap.objs.size f cdv))->sp vs H Q E->
   ∃t,PSs (Yg CX0 P w K mg base N qual (Zg st) f cdv A outer s H E).nox (ZE st) t/\t {nx:=fun _ H'=>Q .non H',rt:=Q} (start N vs) H):FnOk P w K mg base CX0 (k+1) f fd ps sp:=by
 obtain⟨_,_,_,kV,_,_,_,cdv,_,_,rfl,c,a⟩:=F.ex;refine ZdN c a S len fun A outer s H vs Q E d b=>?_;obtain⟨t,h,q⟩:=hbody _ A _ s H vs Q E d b;exact⟨t,h.nox,q⟩
end
end L2
namespace My
open PySem L2
section
variable{P:Program}{w:World}{K:PySem.W.Frag}{mg:Str->Option Value}{base:Heap}
theorem Wk.inv{es}{n m}{s}{sl}{tl t2}(h:Wk es n m (s::sl) tl t2):∃t1,StOk n es.length m s/\Did es tl s t1/\CleanTo es t1 es.length/\Wk es n m sl t1 t2:=by
 cases h with
 |cons a b c d=>exact⟨_,a,b,c,d⟩
theorem Wk.inv0{es}{n m}{tl t2}(h:Wk es n m [] tl t2):t2=tl:=by
 cases h;rfl
theorem StOk.up{n L m m'}{s}(h:StOk n L m s)(hm:m<=m'):StOk n L m' s:=by
 cases s with
 |turn p u v=>exact⟨h.1,Qs h.2.1 hm,Qs h.2.2.1 hm,h.2.2.2⟩
 |tint k t=>exact⟨h.1,Qs h.2 hm⟩
 |_ k=>exact h
abbrev sWa:Stmt:=top 39
abbrev nWa:List Str:=["net","tints","steps","told","now","step"]
inductive spWa(vs:List V)(H:Hp)(Q:VK)(_z3:XK):Prop
 |mk (p r l n q ts es tl tE sl m:_) (_:vs=[.ref p,.ref r,.ref l]) (_:NetZ H p n q ts es) (_:H r=some (.tup (tv tl))) (_:tl.length=es.length) (_:es.length<64) (_:ShSt H l sl) (_:sl.length<=200) (_:Wk es n m sl tl tE) (_:m<=1000) (_:∀H' d(xs) z,Same H H'->H' d=some (.lst xs)->xs.length=sl.length->(.ref r::xs).getLast?=some (.ref z)->H' z=some (.tup (tv tE))->Q (.ref d) H')
theorem scWa:Zm nWa ["net","tints","steps"] (Zg sWa):=⟨rfl,rfl,rfl,by decide+kernel,rfl,by decide+kernel,by decide+kernel⟩
theorem ZlM(F:Fun K "walked" "walked" sWa f fd)(FD:FnE P w K mg base "done" ["net","tints","step"] 6 spDo):FnOk P w K mg base CX0 7 f fd ["net","tints","steps"] spWa:=by
 refine F.ok scWa (fun vs H Q E h=>?_) (fun cdv A outer s H vs Q E hr h=>?_)
 ·obtain⟨p,r,l,n,q,ts,es,tl,tE,sl,m,rfl,_⟩:=h
  rfl
 ·obtain⟨p,r,l,n,qa,ts,es,tl,tE,sl,m,rfl,N,hR,htl,h64,⟨tr,hL,hsl,hU⟩,hsl1,hW,hm,q⟩:=h
  refine⟨_,Zb (Zl (i:=3) scWa.nd rfl (Or.inl rfl) (ZI Za))
   (Zb (Zl (i:=4) scWa.nd rfl (Or.inl rfl) (pv 1))
   (Zb (ZG QD rfl (JI (pv 2)) (Zu (i:=5) scWa.nd rfl (Or.inl rfl))
    (Zb (Zl (i:=4) scWa.nd rfl (Or.inl rfl) (Zs FD hr (Zc (pv 0) (Zc (pv 4) (Zc (pv 5) Za)))))
    (Zf (ZF (Y6 QB QG QH ZC (pv 3) (Zc (pv 4) Za))))))
   (Zf (Zn (pv 3))))),QE _,fun D hD=>?_⟩
  have s0:Same H (upd H D (.lst [])):=Zh hD;have g0:(upd H D (.lst [])) D=some (.lst []):=Zd;generalize upd H D (.lst [])=H0 at s0 g0;refine⟨_,rfl,_,rfl,l,rfl,⟨_,SqL.of (s0 _ _ hL)⟩,Za0 (K:=K) (a:=l) (xs:=tr.map fun x=>V.ref x.1) (fun i σ G=>Same H G/\∃rr d v5 xs,σ=[some (.ref p),some (.ref r),some (.ref l),some (.ref D),some (.ref rr),v5]/\G rr=some (.tup (tv d))/\d.length=es.length/\Wk es n m (sl.drop i) d tE/\G D=some (.lst xs)/\xs.length=i/\(.ref r::xs).getLast?=some (.ref rr))
   ⟨s0,r,tl,_,[],rfl,s0 _ _ hR,htl,hW,g0,rfl,rfl⟩ (fun i σ G _ z=>SqL.of (z.1 _ _ hL)) (fun i x σ G hx xq1=>?_) (fun σ G xq1=>?_)⟩
  ·obtain⟨sH,rr,d,v5,xs,e,hrr,hl',g,gD,j,hla⟩:=xq1
   subst e;rw[Qx]at hx;cases ht:tr[i]? with
   |none=>rw[ht]at hx;cases hx
   |some y=>
    rw[ht]at hx;cases hx;have hs:sl[i]?=some y.2:=by rw[<-hsl,Qx,ht];rfl
    have hil:=(Qd.mp hs).1;have hdr:sl.drop i=y.2::sl.drop (i+1):=by
     rw[Um hil];rw[Qb hil]at hs;rw[Option.some.inj hs]
    rw[hdr]at g;obtain⟨t1,w1,w2,w3,w4⟩:=g.inv;refine⟨_,rfl,_,rfl,_,rfl,p,rr,y.1,n,qa,ts,es,d,t1,y.2,rfl,N.same sH,hrr,hl',h64,sH _ _ (hU y (Qj ht)),w1.up hm,w2,w3,fun G1 r1 s1 h1=>?_⟩;have gD1:=s1 _ _ gD;refine⟨_,rfl,.inl ⟨rfl,_,SqL.of gD1⟩,_,rfl,D,_,_,rfl,rfl,gD1,(by rw[j,QP];omega),(show Same H (upd G1 D (.lst (xs++[.ref r1])))from(Same.trans sH s1).wr hD),r1,t1,_,xs++[.ref r1],rfl,?_,by rw[w2.len];exact hl',w4,Zd,by rw[Qk,j];rfl,by rw[<-List.cons_append,List.getLast?_concat]⟩;rw[Zi fun z=>by rw[z,gD1]at h1;cases h1];exact h1
  ·obtain⟨sH,rr,d,v5,xs,e,hrr,hl',g,gD,j,hla⟩:=xq1
   subst e;rw[Qq,(show tr.length=sl.length by rw[<-hsl,Qq])]at g j;rw[List.drop_length]at g;have e:=g.inv0;subst e;exact⟨_,rfl,q G D xs rr sH gD j hla hrr⟩
abbrev sBh:Stmt:=top 40
inductive spBh(vs:List V)(H:Hp)(Q:VK)(_z3:XK):Prop
 |mk (p r l n q ts es tl tE sl m:_) (_:vs=[.ref p,.ref r,.ref l]) (_:NetZ H p n q ts es) (_:H r=some (.tup (tv tl))) (_:tl.length=es.length) (_:es.length<64) (_:ShSt H l sl) (_:sl.length<=200) (_:Wk es n m sl tl tE) (_:m<=1000) (_:∀H' z,Same H H'->H' z=some (.tup (tv tE))->Q (.ref z) H')
theorem Zn6:Zm ["net","tints","steps"] ["net","tints","steps"] (Zg sBh):=⟨rfl,rfl,rfl,by decide+kernel,rfl,by decide+kernel,by decide+kernel⟩
theorem Zmv(F:Fun K "behind" "behind" sBh f fd)(FW:FnE P w K mg base "walked" ["net","tints","steps"] 7 spWa):FnOk P w K mg base CX0 8 f fd ["net","tints","steps"] spBh:=by
 refine F.ok Zn6 (fun vs H Q E h=>?_) (fun cdv A _ s H vs Q E hr h=>?_)
 ·obtain⟨p,r,l,n,q,ts,es,tl,tE,sl,m,rfl,_⟩:=h
  rfl
 ·obtain⟨p,r,l,n,qa,ts,es,tl,tE,sl,m,rfl,N,hR,j,i,k,e,hW,hm,q⟩:=h
  refine⟨_,Zf (Zn (Zk Zz (Zt Zd7 (Zao (Zc (pv 1) Za)) (Zs FW hr (Zc (pv 0) (Zc (pv 1) (Zc (pv 2) Za))))) (J7 YE Ze) (fun _ _=>rfl))),_,rfl,rfl,fun a H1 g h1=>⟨_,rfl,_,rfl,_,rfl,p,r,l,n,qa,ts,es,tl,tE,sl,m,rfl,N.same g,g _ _ hR,j,i,k.same g,e,hW,hm,fun H2 d xs z s2 hd hxl hla hz=>⟨a,d,_,_,rfl,rfl,s2 _ _ h1,hd,(by grind),fun c H3 s3 hc=>?_⟩⟩⟩;obtain⟨b,hys⟩:∃b,V.ref r::xs=b++[.ref z]:=by
   have:=List.getLast?_eq_some_iff.mp hla;obtain⟨b,h⟩:=this;exact⟨b,h⟩
  exact⟨_,rfl,c,_,_,_,rfl,rfl,SqL.of (show H3 c=some (.lst (b++[.ref z])) by rw[hc,<-hys];rfl),Za6 b _,q H3 z (Same.trans g (Same.trans s2 s3)) (s3 _ _ hz)⟩
end
theorem Wk.uniq(h:Wk es n m sl tl a):∀{b},Wk es n m sl tl b->a=b:=by
 induction h with
 |nil=>intro b c;exact c.inv0.symm
 |_ _ d _ _ _=>
  intro b c;obtain⟨_,_,e,_,_⟩:=c.inv;have:=d.uniq e
  grind
theorem ZkR{es}{n m}{s}{tl t1}(so:StOk n es.length m s)(d:Did es tl s t1)(h:∀t,some t∈tl->t<m):∀t,some t∈t1->t<m:=by
 intro t a;obtain⟨j,e⟩:=UM a;cases s with
 |turn p u v=>
  obtain⟨S,_,g,rfl⟩:=d;by_cases c:t=u
  ·rw[c];exact so.2.1
  ·by_cases b:t=v
   ·rw[b];exact so.2.2.1
   ·exact h t (Qj ((JB so.2.2.2 (fun k i=>((g k).mp i).2.1) c b).mp e))
 |tint k _=>
  subst d;rcases List.mem_or_eq_of_mem_set a with z|z
  ·exact h t z
  ·rw[Option.some.inj z];exact so.2
 |_ k=>
  subst d;rcases List.mem_or_eq_of_mem_set a with z|z
  ·exact h t z
  ·cases z
theorem Zle{es}{n m}{sl}{tl a}(h:Wk es n m sl tl a):(∀t,some t∈tl->t<m)->∀t,some t∈a->t<m:=by
 induction h with
 |nil=>exact fun z=>z
 |_ b d _ _ c=>exact fun z=>c (ZkR b d z)
structure ZmZ(es:List (Nat×Nat))(tl:List (Option Nat))(k m n:Nat)(sl:List Stp):Prop where
 ex:∃tE,Wk es n m sl tl tE/\tE.length=es.length/\CleanTo es tE es.length/\(∃t,tE[k]?=some (some t))/\∀j,j≠k->(tE[j]?=some none↔tl[j]?=some none)
 few:sl.length<=200
structure WayF.Good(W:WayF):Prop where
 nn:∀M,0<=M->0<=W.nd M/\W.nd M<=2*M
 put:∀{es:List (Nat×Nat)}{tl:List (Option Nat)}{n m k:Nat},(∀e∈es,e.1<n/\e.2<n/\e.1≠e.2)->W.ok es->CleanTo es tl es.length->tl.length=es.length->k<es.length->tl[k]?=some none->(∀M,IsMax (dl es n) M->W.nd M<=(m:Int))->n<=60->ZmZ es tl k m n (W.put es tl k m)
theorem ZhD:∀xs:List _,∃M,IsMax xs M
 |[]=>⟨0,.inl ⟨rfl,rfl⟩⟩
 |x::xs=>by
  obtain⟨M,h⟩:=ZhD xs;rcases h with⟨rfl,_⟩|⟨g,f⟩
  ·exact⟨x,.inr ⟨.head _,fun a e=>by simp_all⟩⟩
  ·by_cases c:x<=M
   ·exact⟨M,.inr ⟨.tail _ g,fun a e=>by rcases Qn.mp e with rfl|z;exact c;exact f a z⟩⟩
   ·exact⟨x,.inr ⟨.head _,fun a e=>by grind⟩⟩
theorem Zab{f:Int->Int}{m:Nat}(h:∀M,IsMax (dl es n) M->f M<=(m:Int)):∃M,(∀x,x<n->dg es es.length x<=M)/\f M<=m:=by
 obtain⟨M,a⟩:=ZhD (dl es n);refine⟨M.toNat,fun x b=>?_,?_⟩
 ·have:=ZiI a b;omega
 ·rw[US ((Zav a).1)];exact h M a
def g0(m:Int):Int:=if 0>2*m-1 then 0 else 2*m-1
def W1:WayF:=⟨fun _=>True,g0,fun _ _ _ _=>[]⟩
noncomputable def W2:WayF:=⟨Two,fun m=>m,fun es tl k m=>[.turn (es.getD k (0,0)).2 (ZcW es tl k m) (twoT es tl k m),.tint k (ZcW es tl k m)]⟩
noncomputable def W3:WayF:=⟨fun _=>True,fun m=>3*m/2,roomOf⟩
noncomputable def WP:WayF:=⟨YK,fun m=>if 0<m then m+1 else 0,roomF⟩
theorem W1.sh{n m k:Nat}(ok:∀e∈es,e.1<n/\e.2<n/\e.1≠e.2) (hk:k<es.length) (hb:tl[k]?=some none) (hM:∀M,IsMax (dl es n) M->g0 M<=(m:Int)):0<(both es tl (es.getD k (0,0)).1 (es.getD k (0,0)).2 m).length:=by
 obtain⟨M,a,b⟩:=Zab hM;obtain⟨h,d,_⟩:=ok _ (getD_mem hk);obtain⟨_,g,f,c⟩:=Zgj (m:=m) hk hb (a _ h) (a _ d) (by unfold g0 at b;split at b<;>omega)
 exact QZ (both_mem.mpr ⟨g,f,c⟩)
theorem Zks(hC:CleanTo es tl es.length)(hl:tl.length=es.length)(hk:k<es.length)(h0:0<(both es tl (es.getD k (0,0)).1 (es.getD k (0,0)).2 m).length):ZmZ es tl k m n [.tint k ((both es tl (es.getD k (0,0)).1 (es.getD k (0,0)).2 m).getD 0 0)]:=by
 obtain⟨c,d,b⟩:=both_mem.mp (head_mem h0);have a:=Ya hC hl hk d b;exact⟨⟨_,.cons (s:= .tint k _) ⟨hk,c⟩ rfl a .nil,by rw[QT];exact hl,a,⟨_,by rw[Qy,if_pos rfl,if_pos (by omega)]⟩,fun j _=>by grind⟩,by show 1<=200;decide⟩
theorem W1.good:W1.Good:=⟨fun M h=>by show 0<=g0 M/\g0 M<=_;unfold g0;split<;>omega,fun{_ _ n m k} d _ e f a c b _=>by
 have h:=W1.sh d a c b;unfold WayF.put;rw[if_pos h];exact Zks e f a h⟩
theorem W2.good:W2.Good:=⟨fun M h=>by show 0<=M/\M<=_;omega,fun{_ _ n m k} t p q o l f i _=>by
 obtain⟨M,j,r⟩:=Zab i;obtain⟨⟨s,a,b,c,d,e,_⟩,g⟩:=Ziz t p q o l f j (m:=m) (by have:(M:Int)<=m:=r;omega);exact⟨⟨s,a,b,c,d,e⟩,QM g (by decide)⟩⟩
theorem W3.good:W3.Good:=⟨fun M h=>by show 0<=3*M/2/\3*M/2<=_;omega,fun{_ _ n m k} s _ q o l f i _=>by
 obtain⟨M,j,r⟩:=Zab i;obtain⟨⟨p,a,b,c,d,e,_⟩,g⟩:=Zkc s q o l f j (m:=m) (by have:3*(M:Int)/2<=m:=r;omega);exact⟨⟨p,a,b,c,d,e⟩,QM g (by decide)⟩⟩
theorem Zhf{tl:List (Option Nat)}{k n M}(ok:∀e∈es,e.1<n/\e.2<n/\e.1≠e.2) (hk:k<es.length) (hb:tl[k]?=some none) (h:∀x,x<n->dg es es.length x<=M):0<M:=by
 have _:=ZdS hk hb (.inl rfl)
 grind
theorem WP.lt{M m:Nat}(h:0<M)(h2:(if 0<(M:Int)then(M:Int)+1 else 0)<=(m:Int)):M<m:=by
 omega
theorem WP.good:WP.Good:=⟨fun M h=>by show 0<=(if 0<M then M+1 else 0)/\(if 0<M then M+1 else 0)<=_;split<;>omega,fun{_ _ n m k} l p q t f i o _=>by
 obtain⟨M,j,r⟩:=Zab o;obtain⟨⟨s,a,b,c,d,e,_⟩,g⟩:=Ziy l p q t f i j (WP.lt (Zhf l f i j) r);exact⟨⟨s,a,b,c,d,e⟩,QM g (by omega)⟩⟩
inductive Td(W:WayF)(es:List (Nat×Nat))(n m:Nat):Nat->List (Option Nat)->Prop
 |zero:Td W es n m 0 (List.replicate es.length none)
 |succ {k:Nat} {tl tE:List (Option Nat)}:Td W es n m k tl->Wk es n m (W.put es tl k m) tl tE->Td W es n m (k+1) tE
theorem Td.uniq(h:Td W es n m k a):∀{b},Td W es n m k b->a=b:=by
 induction h with
 |zero=>intro b d;cases d;rfl
 |succ _ w e=>
  intro b d;cases d with
  |succ f g=>
   have:=e f;subst this;exact w.uniq g
structure TdOk(es:List (Nat×Nat))(m k:Nat)(tl:List (Option Nat)):Prop where
 len:tl.length=es.length
 cl:CleanTo es tl es.length
 lt:∀t,some t∈tl->t<m
 had:∀j,j<k->∃t,tl[j]?=some (some t)
 bare:∀j,k<=j->j<es.length->tl[j]?=some none
theorem TdOk.zero(es)(m):TdOk es m 0 (List.replicate es.length none):=by
 refine⟨List.length_replicate,fun i j t a _ _=>?_,fun t _=>?_,fun j a=>absurd a (QK _),fun j _ a=>?_⟩
 ·simp_all
 ·simp_all
 ·simp_all
theorem TdOk.succ{W:WayF}(G:W.Good){es:List _}{n m k:Nat}{tl:List _}(ok:∀e∈es,e.1<n/\e.2<n/\e.1≠e.2) (ho:W.ok es) (hM:∀M,IsMax (dl es n) M->W.nd M<=(m:Int)) (h60:n<=60) (hk:k<es.length) (h:TdOk es m k tl):
  ∃tE,Wk es n m (W.put es tl k m) tl tE/\TdOk es m (k+1) tE/\(W.put es tl k m).length<=200:=by
 obtain⟨⟨tE,w,l,c,⟨t,_⟩,g⟩,b⟩:=G.put ok ho h.cl h.len hk (h.bare k (Qe _) hk) hM h60;refine⟨tE,w,⟨l,c,Zle w h.lt,fun j d=>?_,fun j d f=>(g j (by omega)).mpr (h.bare j (by omega) f)⟩,b⟩;by_cases e:j=k
 ·simp_all
 ·obtain⟨_,_⟩:=h.had j (by omega)
  obtain⟨o,ho⟩:∃o,tE[j]?=some o:=⟨_,Qb (by omega)⟩;cases o with
  |none=>simp_all
  |some z=>exact⟨z,ho⟩
section
variable{P:Program}{w:World}{K:PySem.W.Frag}{mg:Str->Option Value}{base:Heap}{C cM:Addr}{W:WayF}
theorem Zk4(F:Fun K "made_room" "Way.made_room" (inClass (top 27) 3) f fd):FnOk P w K mg base CX0 1 f fd nMr (Zam W1):=by
 refine F.ok (N:=nMr) ⟨rfl,rfl,rfl,by decide+kernel,rfl,by decide+kernel,by decide+kernel⟩ (fun c H Q E h=>?_) (fun _ A _ s H c Q E _ h=>?_)
 ·obtain⟨s,p,r,n,q,g,b,d,k,m,rfl,_⟩:=h
  rfl
 ·obtain⟨s,p,r,n,q,g,b,d,k,m,rfl,I,e,_⟩:=h
  exact⟨_,Zf (Zn (ZI Za)),absurd (W1.sh I.N.ok I.hk I.hb I.hM) e⟩
theorem mr2(h:Zam W2 vs H Q E):spMr2 vs H Q E:=by
 obtain⟨s,p,r,n,q,c,e,b,k,m,rfl,I,a,z⟩:=h;obtain⟨M,f,d⟩:=Zab I.hM;refine⟨s,p,r,n,q,c,e,b,k,m,rfl,⟨I.N,I.hR,I.len,I.hk,I.hb,I.hC,I.hm,I.h64,I.ho,M,f,by have:(M:Int)<=m:=d;omega⟩,a,?_⟩;unfold put2;rw[if_neg a];exact z
theorem mr3(h:Zam W3 vs H Q E):spMr3 vs H Q E:=by
 obtain⟨s,p,r,n,q,c,e,a,k,m,rfl,I,b,z⟩:=h;obtain⟨M,f,d⟩:=Zab I.hM;exact⟨s,_,rfl,rfl,p,r,n,q,c,e,a,k,m,rfl,⟨I.N,I.hR,I.len,I.hk,I.hb,I.hC,I.hm,I.h64,M,f,by have:3*(M:Int)/2<=m:=d;omega⟩,b,z⟩
theorem mrF(h:Zam WP vs H Q E):spMrF vs H Q E:=by
 obtain⟨s,p,r,n,q,c,d,b,k,m,rfl,I,_,z⟩:=h;obtain⟨M,a,e⟩:=Zab I.hM;exact⟨s,p,r,n,q,c,d,b,k,m,rfl,⟨I.N,I.hR,I.len,I.hk,I.hb,I.hC,I.hm,I.h64,I.ho,M,a,WP.lt (Zhf I.N.ok I.hk I.hb a) e⟩,z⟩
theorem ak1(h:Zbz W vs H Q E):spAk vs H Q E:=by
 obtain⟨s,p,n,q,_,_,rfl,_,_,z⟩:=h;exact⟨s,p,rfl,z H (fun _ _ z=>z)⟩
def WyV(C cM:Addr)(H:Hp)(v:V):Prop:=(∃s dx,v= .ref s/\H s=some (.ins C dx []))\/v= .non/\C=cM
theorem WyV.same{v}(h:WyV C cM H v)(s:Same H H'):WyV C cM H' v:=h.imp (fun⟨x,c,a,b⟩=>⟨x,c,a,s _ _ b⟩) id
abbrev sWm:Stmt:=top 32
inductive ZjJ(C cM:Addr)(vs:List V)(H:Hp)(Q:VK)(_z3:XK):Prop
 |mk (v:_) (_:vs=[v]) (_:WyV C cM H v) (_:∀H' s dx,Same H H'->H' s=some (.ins C dx [])->Q (.ref s) H')
theorem Zns:Zm ["way"] ["way"] (Zg sWm):=⟨rfl,rfl,rfl,by decide+kernel,rfl,by decide+kernel,by decide+kernel⟩
theorem Zfg(F:Fun K "way_or_manifold" "way_or_manifold" sWm f fd)(gM:mg "Manifold"=some (.ref cM))(mM:Mk0 K cM):FnOk P w K mg base CX0 1 f fd ["way"] (ZjJ C cM):=by
 refine F.ok Zns (fun j H Q E h=>?_) (fun _ A _ s H j Q E _ h=>?_)
 ·obtain⟨s,rfl,_⟩:=h
  rfl
 ·obtain⟨v,rfl,i,q⟩:=h
  refine⟨_,Zf (Zn (YH (Zp ZbA (pv 0) ZH (Zx _)) (Zb6 mM rfl gM) (pv 0))),?_⟩;rcases i with⟨a,b,rfl,k⟩|⟨rfl,rfl⟩
  ·exact⟨_,rfl,rfl,_,rfl,Z3 (fun z=>absurd (Qr z) (fun e=>nomatch e)) (fun _=>⟨_,rfl,q H a b (fun _ _ z=>z) k⟩)⟩
  ·exact⟨_,rfl,rfl,_,rfl,Z3 (fun _=>(fun a b d c g=>q _ a b (Same.trans (Zh c) (Zh (by rw[Zi (Ne.symm g)];exact d))) Zd)) (fun z=>absurd (Qu rfl) z)⟩
abbrev sTd:Stmt:=top 42
abbrev nTd:List Str:=["net","way","chosen","many","tints","tie"]
inductive Zlt(W:WayF)(C cM:Addr)(vs:List V)(H:Hp)(Q:VK)(_z3:XK):Prop
 |mk (p v n q ts es:_) (_:vs=[.ref p,v]) (_:NetZ H p n q ts es) (_:WyV C cM H v) (_:W.ok es) (_:es.length<64) (_:∀H' r tl(m:Nat),Same H H'->H' r=some (.tup (tv tl))->(∃M,IsMax (dl es n) M/\m=W.nd M)->Td W es n m es.length tl->TdOk es m es.length tl->Q (.ref r) H')
theorem scTd:Zm nTd ["net","way"] (Zg sTd):=⟨rfl,rfl,rfl,by decide+kernel,rfl,by decide+kernel,by decide+kernel⟩
theorem ZfN(N):(List.replicate N ([.non])).flatten=tv (List.replicate N none):=by
 induction N with
 |zero=>rfl
 |_ n a=>
  rw[List.replicate_succ,List.replicate_succ,List.flatten_cons,a];rfl
theorem Zfh(G:W.Good)(F:FunD K "tinted" "tinted" sTd f fd)(T:Bi mg)(FW:FnE P w K mg base "way_or_manifold" ["way"] 8 (ZjJ C cM))(FMo:FnE P w K mg base "most_of" ["net"] 8 spMo)(MA:MeE P w K mg base C "asked" ["self","net"] 8 (Zbz W))(MN:MeE P w K mg base C "needed" ["self","most"] 8 (Zbx W))(MP:MeE P w K mg base C "put" ["self","net","tints","tie","many"] 8 (ZgC W C))(FBh:FnE P w K mg base "behind" ["net","tints","steps"] 8 spBh):
  FnOk P w K mg base CX0 9 f fd ["net","way"] (Zlt W C cM):=by
 refine F.ok scTd (fun vs H Q E h=>?_) (fun cdv A outer s H vs Q E hr h=>?_)
 ·obtain⟨p,s,n,q,ts,c,rfl,_⟩:=h
  rfl
 ·obtain⟨p,v,n,qa,ts,c,rfl,N,hv,hO,h64,q⟩:=h
  refine⟨_,Zb (Zl (i:=2) scTd.nd rfl (Or.inl rfl) (Zs FW hr (Zc (pv 1) Za)))
   (Zb (ZF (Zct MA hr (pv 2) (Zc (pv 0) Za)))
   (Zb (Zl (i:=3) scTd.nd rfl (Or.inl rfl) (Zct MN hr (pv 2) (Zc (Zs FMo hr (Zc (pv 0) Za)) Za)))
   (Zb (Zl (i:=4) scTd.nd rfl (Or.inl rfl) (Zt Zi8 (Z1 (Zc ZH Za)) (Zo Zr rfl T.len Yv (Zc (Zk Zj (pv 0) Ze (fun _ _=>rfl)) Za))))
   (Zb (ZG QD rfl (ZZ rfl T.range (Zc (Zo Zr rfl T.len Yv (Zc (Zk Zj (pv 0) Ze (fun _ _=>rfl)) Za)) Za)) (Zu (i:=5) scTd.nd rfl (Or.inl rfl))
    (Zf (Zl (i:=4) scTd.nd rfl (Or.inl rfl) (Zs FBh hr (Zc (pv 0) (Zc (pv 4) (Zc (Zct MP hr (pv 2) (Zc (pv 0) (Zc (pv 4) (Zc (pv 5) (Zc (pv 3) Za))))) Za)))))))
   (Zf (Zn (pv 4))))))),?_⟩
  have hlen:=N.len;refine⟨_,rfl,v,rfl,hv,fun Hw sw dx sHw hs=>⟨_,rfl,sw,dx,_,rfl,hs,rfl,_,rfl,sw,p,n,qa,ts,c,rfl,N.same sHw,hO,fun H0 s0'=>?_⟩⟩;have s0:=Same.trans sHw s0';refine⟨_,rfl,sw,dx,_,rfl,s0' _ _ hs,rfl,_,rfl,p,n,qa,ts,c,rfl,N.same s0,fun H1 M s1' hMx=>⟨sw,M,rfl,(Zav hMx).1,?_⟩⟩;have m0:=Zav hMx;have mB:=G.nn M m0.1;obtain⟨m,hm⟩:∃m:Nat,(m:Int)=W.nd M:=⟨(W.nd M).toNat,US mB.1⟩;have hdm:∀M,IsMax (dl c n) M->W.nd M<=(m:Int):=fun M' h'=>by rw[h'.uniq hMx,hm];exact Int.le_refl _
  rw[<-hm];refine⟨rfl,fun t0 H2 s2 h2=>?_⟩;have s12:=Same.trans (Same.trans s0 s1') s2;refine⟨_,rfl,p,_,_,_,rfl,rfl,SqT.of (s12 _ _ N.e1),rfl,qa,_,rfl,.inr (SqT.of (s12 _ _ N.e2)),t0,ts.length,_,rfl,rfl,h2,by omega,(fun z=>by cases z),(by show 1*ts.length<=100000;omega),fun r0 H3 s3 h3=>?_⟩;rw[hlen,ZfN]at h3;have s13:=Same.trans s12 s3;have hs3:=s3 _ _ (s2 _ _ (s1' _ _ (s0' _ _ hs)));refine⟨_,rfl,p,_,_,_,rfl,rfl,SqT.of (s13 _ _ N.e1),rfl,qa,_,rfl,.inr (SqT.of (s13 _ _ N.e2)),_,rfl,by omega,by omega,Y1 (lo:=0) (n:=((ts.length:Nat):Int).toNat) (fun k σ G=>E3 fun r tl v5=>σ=[some (.ref p),some v,some (.ref sw),some (.int (m:Int)),some (.ref r),v5]/\Same H G/\G sw=some (.ins C dx [])/\G r=some (.tup (tv tl))/\Td W c n m k tl/\TdOk c m k tl)
   ⟨r0,_,_,rfl,s13,hs3,h3,.zero,.zero c m⟩ (fun k σ G' hk xq1=>?_) (fun σ G' xq1=>?_)⟩
  ·obtain⟨r,tl,v5,e,SG,gs,hr',hTd,b⟩:=xq1
   subst e;have hke:k<c.length:=by omega
   obtain⟨tE,hw,hOk',few⟩:=b.succ G N.ok hO hdm N.n60 hke;refine⟨_,rfl,_,rfl,_,rfl,sw,dx,_,rfl,gs,rfl,_,rfl,_,rfl,_,rfl,_,rfl,sw,p,r,n,qa,ts,c,tl,k,m,dx,(by rw[U5];rfl),gs,⟨N.same SG,hr',b.len,hke,b.bare k (Qe _) hke,b.cl,by omega,h64,hO,hdm⟩,fun G1 l s4 _ hSh=>?_⟩;have SG1:=Same.trans SG s4;exact⟨p,r,l,n,qa,ts,c,tl,tE,_,m,rfl,N.same SG1,s4 _ _ hr',b.len,h64,hSh,few,hw,by omega,fun G2 z s5 hz=>⟨z,tE,_,rfl,Same.trans SG1 s5,s5 _ _ (s4 _ _ gs),hz,.succ hTd hw,hOk'⟩⟩
  ·obtain⟨r,tl,v5,e,SG,gs,hr',hTd,b⟩:=xq1
   subst e;rw[show((ts.length:Nat):Int).toNat=c.length by assumption]at hTd b;exact⟨_,rfl,q G' r tl m SG hr' ⟨M,hMx,hm⟩ hTd b⟩
end
section
variable{P:Program}{w:World}{K:PySem.W.Frag}{mg:Str->Option Value}{base:Heap}
abbrev ZcO:Stmt:=top 61
abbrev ZiH:List Str:=["_law_number","_law_k","_law_points","_law_kind","_law_one","_law_other"]
inductive spTie(vs:List V)(H:Hp)(Q:VK)(_z3:XK):Prop
 |mk (n k p kd:_) (_:vs=[.int n,.int k,.int p,.int kd]) (_:0<=n) (_:0<=k) (_:2<=p) (_:p<=60) (_:∀(i j)(t)(H'),0<=i->i<p->0<=j->j<p->i≠j->Same H H'->H' t=some (.tup [.int i,.int j])->Q (.ref t) H')
theorem scTie:Zm ZiH ["_law_number","_law_k","_law_points","_law_kind"] (Zg ZcO):=⟨rfl,rfl,rfl,by decide+kernel,rfl,by decide+kernel,by decide+kernel⟩
theorem Zkt(F:Fun K "_law_tie" "_law_tie" ZcO f fd):FnOk P w K mg base CX0 1 f fd ["_law_number","_law_k","_law_points","_law_kind"] spTie:=by
 refine F.ok scTie (fun vs H Q E h=>?_) (fun cdv A outer s H vs Q E hr h=>?_)
 ·obtain⟨n,k,p,kd,rfl,_⟩:=h
  rfl
 ·obtain⟨n,k,p,kd,rfl,n0,k0,p2,p60,q⟩:=h
  obtain⟨t5,h5,r5⟩:∃t,PSs (Yg CX0 P w K mg base ZiH "_law_tie" (Zg ZcO) f cdv A outer s H E).nox ((ZE ZcO).drop 5) t/\∀i j:Int,0<=i->i<p->0<=j->j<p->i≠j->
    t {nx:=fun _ H'=>Q .non H',rt:=Q} [some (.int n),some (.int k),some (.int p),some (.int kd),some (.int i),some (.int j)] H:=by
   refine⟨_,Zb (Z2 (Zp ZK (Zt ZN (Zt Yt (pv 0) Ze) Ze) Ze (Zx _)) (Zf (Zn (Z1 (Zc (pv 5) (Zc (pv 4) Za))))) Zw) (Zf (Zn (Z1 (Zc (pv 4) (Zc (pv 5) Za))))),fun i j i0 i1 j0 j1 ne=>⟨_,rfl,_,_,rfl,rfl,⟨by decide,by decide⟩,_,_,rfl,rfl,(by show 0<2;decide),rfl,_,rfl,Z3 (fun _=>?_) (fun _=>?_)⟩⟩
   ·exact⟨_,rfl,_,rfl,rfl,fun t H' s' ht=>q j i t H' j0 j1 i0 i1 (Ne.symm ne) s' ht⟩
   ·exact⟨_,rfl,_,rfl,rfl,fun t H' s' ht=>q i j t H' i0 i1 j0 j1 ne s' ht⟩
  have m1:=Jl (n:=n/64) (p:=p-1) (by omega);have m2:=JY (n:=n/64) (p:=p-1) (by omega);obtain⟨t4,h4,r4⟩:∃t,PSs (Yg CX0 P w K mg base ZiH "_law_tie" (Zg ZcO) f cdv A outer s H E).nox ((ZE ZcO).drop 4) t/\∀i j:Int,0<=i->i<p->0<=j->j<p->i≠j->
    t {nx:=fun _ H'=>Q .non H',rt:=Q} [some (.int n),some (.int k),some (.int p),some (.int kd),some (.int i),some (.int j)] H:=by
   refine⟨_,Zb (Z2 (Zp ZK (pv 3) Ze (Zx _)) (Zb (Zl (i:=4) scTie.nd rfl (Or.inl rfl) Ze) (Zf (Zl (i:=5) scTie.nd rfl (Or.inl rfl) (Zt ZS Ze (Zt ZN (Zt Yt (pv 0) Ze) (Zt Jk (pv 2) Ze)))))) Zw) h5,fun i j i0 i1 j0 j1 ne=>⟨_,rfl,rfl,_,rfl,Z3 (fun _=>?_) (fun _=>?_)⟩⟩
   ·exact⟨_,rfl,_,_,rfl,rfl,⟨by decide,by decide⟩,_,rfl,_,_,rfl,rfl,_,_,rfl,rfl,(by omega),_,_,rfl,rfl,r5 0 _ (by omega) (by omega) (by omega) (by omega) (by omega)⟩
   ·exact r5 i j i0 i1 j0 j1 ne
  obtain⟨t3,h3,r3⟩:∃t,PSs (Yg CX0 P w K mg base ZiH "_law_tie" (Zg ZcO) f cdv A outer s H E).nox ((ZE ZcO).drop 3) t/\∀i j:Int,0<=i->i<p->0<=j->j<p->i≠j->
    t {nx:=fun _ H'=>Q .non H',rt:=Q} [some (.int n),some (.int k),some (.int p),some (.int kd),some (.int i),some (.int j)] H:=by
   refine⟨_,Zb (Z2 (PW.pt (pw_and (Zp ZK (pv 3) Ze (Zx _)) (pw_and1 (Zp ZaX (pv 1) (pv 2) (Zx _))))) (Zb (Zl (i:=4) scTie.nd rfl (Or.inl rfl) (pv 1)) (Zf (Zl (i:=5) scTie.nd rfl (Or.inl rfl) (Zt ZN (Zt ZS (pv 1) Ze) (pv 2))))) Zw) h4,fun i j i0 i1 j0 j1 ne=>⟨_,rfl,rfl,_,rfl,Z3 (fun _=>?_) (fun _=>?_)⟩⟩
   ·refine⟨_,rfl,_,rfl,_,_,rfl,rfl,_,rfl,Z3 (fun hz=>?_) (fun _=>?_)⟩
    ·have hk:=Qr hz
     have e:=Int.emod_eq_of_lt k0 hk;refine⟨_,rfl,_,rfl,_,_,rfl,rfl,_,rfl,_,_,rfl,rfl,(by show 0<p;omega),r4 k _ k0 hk (Jl (by omega)) (JY (by omega)) (fun z=>next_ne (n:=k) p2 (by rw[<-z,e]))⟩
    ·exact r4 i j i0 i1 j0 j1 ne
   ·exact ZA (r4 i j i0 i1 j0 j1 ne)
  refine⟨_,Zb (Zl (i:=4) scTie.nd rfl (Or.inl rfl) (Zt ZN (pv 0) (pv 2)))
   (Zb (Zl (i:=5) scTie.nd rfl (Or.inl rfl) (Zt ZN (Zt ZS (Zt ZS (pv 4) Ze) (Zt ZN (Zt Yt (pv 0) Ze) (Zt Jk (pv 2) Ze))) (pv 2)))
   (Zb (Z2 (Zp ZK (pv 3) Ze (Zx _)) (Zb (Zl (i:=4) scTie.nd rfl (Or.inl rfl) (Zt ZN (pv 0) (Zt Yt (pv 2) Ze)))
    (Zf (Zl (i:=5) scTie.nd rfl (Or.inl rfl) (Zt ZS (Zt Yt (pv 2) Ze) (Zt ZN (Zt Yt (pv 0) Ze) (Zt Jk (pv 2) (Zt Yt (pv 2) Ze))))))) Zw) h3)),?_⟩
  have a1:=Jl (n:=n) (p:=p) (by omega);have a2:=JY (n:=n) (p:=p) (by omega);refine⟨_,rfl,_,rfl,_,_,rfl,rfl,(by show 0<p;omega),_,rfl,_,_,rfl,rfl,_,rfl,_,_,rfl,rfl,⟨by decide,by decide⟩,_,rfl,_,_,rfl,rfl,_,_,rfl,rfl,(by show 0<p-1;omega),_,_,rfl,rfl,_,rfl,_,_,rfl,rfl,(by show 0<p;omega),?_⟩;have ne:n%p≠(n%p+1+n/64%(p-1))%p:=fun z=>by
   refine ZeT (a:=n%p) (d:=1+n/64%(p-1)) (p:=p) a1 a2 (by omega) (by omega) ?_;rw[<-Int.add_assoc];exact z.symm
  refine⟨_,rfl,rfl,_,rfl,Z3 (fun _=>?_) (fun _=>?_)⟩
  ·have b1:=Jl (n:=n) (p:=p/2) (by omega)
   have b2:=JY (n:=n) (p:=p/2) (by omega);have b3:=Jl (n:=n/64) (p:=p-p/2) (by omega);have b4:=JY (n:=n/64) (p:=p-p/2) (by omega);exact⟨_,rfl,_,rfl,_,_,rfl,rfl,⟨by decide,by decide⟩,_,_,rfl,rfl,(by show 0<p/2;omega),_,rfl,_,_,rfl,rfl,⟨by decide,by decide⟩,_,rfl,_,_,rfl,rfl,⟨by decide,by decide⟩,_,rfl,_,rfl,_,_,rfl,rfl,⟨by decide,by decide⟩,_,_,rfl,rfl,_,_,rfl,rfl,(by show 0<p-p/2;omega),_,_,rfl,rfl,r3 _ _ (by omega) (by omega) (by omega) (by omega) (by omega)⟩
  ·exact r3 _ _ a1 a2 (Jl (by omega)) (JY (by omega)) ne
end
end My
namespace L2
open PySem PySem.Spec PyProof.Rows PySem.SeqAt
section
variable{X:Cx}
theorem all_eq:∀(ns ms:List Int),((List.range (min ns.length ms.length)).all (fun j=>ns.getD j 0==ms.getD j 0)&&(ns.length==ms.length))=decide (ns=ms):=by
 intro ns ms;rw[Bool.eq_iff_iff,Ux,decide_eq_true_eq,List.all_eq_true];constructor
 ·rintro⟨_,c⟩
  refine List.ext_getElem (eq_of_beq c) fun i a b=>?_
  simp_all
 ·simp_all
theorem Zf0{σ:St}{H}{s}(I:Inv X pins σ H s){A}{a b}{ns ms:List _}(hu:A.units+1<cLine)(ha:SqT X.K H a (ns.map V.int))(hb:SqT X.K H b (ms.map V.int)):EqAt A s (.ref a) (.ref b) (decide (ns=ms)):=by
 by_cases f:a=b
 ·subst f
  have e:=I.tuple_inj ha hb;have k:=(List.map_inj_right (fun x y z=>V.int.inj z)).mp e;rw[Qu k];exact EqAt.same _
 refine EqAt.of_refs f ?_;obtain⟨p,c,n,_⟩:=I.tuple ha;obtain⟨l,d,q,_⟩:=I.tuple hb;have h:=c.length;have g:=d.length;rw[Qq]at h g;have e:=RcAt.tuples (A:=A) (e:=fun j=>ns.getD j 0==ms.getD j 0) n q (by omega) (fun j m w=>?_)
 ·rw[QA,QA,<-h,<-g,all_eq]at e
  exact e
 ·simp[QA]at m w
  obtain⟨C,_,o⟩:=c.get (i:=j) (by rw[Qx,Qb (by omega)];rfl);obtain⟨t,k,v⟩:=d.get (i:=j) (by rw[Qx,Qb (by omega)];rfl);have B:p[j]=C:=by simp_all
  have D:l[j]=t:=by simp_all
  obtain⟨u,rfl⟩:=o;obtain⟨r,rfl⟩:=v;simp only[U2,B,D];rw[Qi,Qi,Qb (show j<ns.length by omega),Qb (show j<ms.length by omega)];exact(EqAt.int_int _ u _ r)
inductive Ziw(K:PySem.W.Frag)(x:V)(y:V)(H:Hp)(Q:VK):Prop
 |mk (p l:Addr) (ns:List Int) (tr:List (Addr×List Int)) (_:x= .ref p) (_:y= .ref l) (_:SqT K H p (ns.map V.int)) (_:SqL K H l (tr.map fun t=>V.ref t.1)) (_:(∀t∈tr,SqT K H t.1 (t.2.map V.int))) (_:Q (.bl (!tr.any fun t=>decide (t.2=ns))) H)
theorem Zb2:∀{tr:List (Addr×List Int)}{us},Vals (tr.map fun t=>V.ref t.1) us->us=tr.map fun t=>Value.ref t.1
 |[],_,.nil=>rfl
 |t::tr,_,.cons h r=>by
  cases h
  rw[Zb2 r];rfl
theorem Zcv{k:Nat}(hr:Room k X.A):OpR X (compareOp .NotIn) (Ziw X.K):=by
 intro pins s σ H x y v u Q I rx ry h;obtain⟨p,l,ns,tr,rfl,rfl,hp,hl,ht,q⟩:=h;cases(show v=Value.ref p from rx);cases(show u=Value.ref l from ry);obtain⟨its,r,pl,hz⟩:=I.list hl;have e:=Zb2 r;subst e;have hun:=hr.un;have hinj:∀t∈tr,∀t'∈tr,t.1=t'.1->t.2=t'.2:=fun t h1 t' h2 z=>by
  have a:=ht t h1;have b:=ht t' h2;rw[<-z]at b;exact(List.map_inj_right (fun x y z=>V.int.inj z)).mp (I.tuple_inj a b)
 refine SeqAt.notIn_listAt (fun w=>@decide (∃t∈tr,w=Value.ref t.1/\t.2=ns) (Classical.propDecidable _)) pl.isList (fun w hw=>?_) ⟨.bl _,H,I,rfl,?_⟩
 ·obtain⟨t,h1,rfl⟩:=QQ.mp (show w∈tr.map fun t=>Value.ref t.1 by simpa using hw)
  have e:=Zf0 I (A:=X.A.in1) (by show X.A.units+1+1<cLine;omega) (ht t h1) hp;have e2:@decide (∃t'∈tr,Value.ref t.1=Value.ref t'.1/\t'.2=ns) (Classical.propDecidable _)=decide (t.2=ns):=by
   by_cases z:t.2=ns
   ·rw[Qu z]
    exact @Qu _ (Classical.propDecidable _) ⟨t,h1,rfl,z⟩
   ·rw[QX z]
    refine @QX _ (Classical.propDecidable _) fun⟨t',h2,e3,e4⟩=>z ?_;have:t.1=t'.1:=Value.ref.inj e3;rw[hinj t h1 t' h2 this];exact e4
  show EqAt _ s _ _ (@decide (∃t'∈tr,Value.ref t.1=Value.ref t'.1/\t'.2=ns) (Classical.propDecidable _));rw[e2];exact e
 ·have e:((tr.map fun t=>Value.ref t.1).toArray.any fun w=>@decide (∃t∈tr,w=Value.ref t.1/\t.2=ns) (Classical.propDecidable _))=tr.any fun t=>decide (t.2=ns):=by
   rw[Bool.eq_iff_iff,UK];rw[show(tr.map fun t=>Value.ref t.1).toArray.any (fun w=>@decide (∃t∈tr,w=Value.ref t.1/\t.2=ns) (Classical.propDecidable _))=(tr.map fun t=>Value.ref t.1).any (fun w=>@decide (∃t∈tr,w=Value.ref t.1/\t.2=ns) (Classical.propDecidable _)) by simp,UK];constructor
   ·rintro⟨w,_,z⟩
    obtain⟨t,h1,_,h2⟩:=@Qr _ (Classical.propDecidable _) z;exact⟨t,h1,Qu h2⟩
   ·rintro⟨t,h1,h2⟩
    exact⟨Value.ref t.1,List.mem_map_of_mem h1,@Qu _ (Classical.propDecidable _) ⟨t,h1,rfl,Qr h2⟩⟩
  rw[e];exact q
end
end L2
namespace My
open PySem L2
section
variable{P:Program}{w:World}{K:PySem.W.Frag}{mg:Str->Option Value}{base:Heap}
abbrev ZgG:Stmt:=top 62
abbrev Zm0:List Str:=["_law_draws_here","_law_at","_law_points","_law_kind","_law_many","_law_ties","_law_k","_law_tie_here"]
inductive Zjr(K:PySem.W.Frag)(vs:List V)(H:Hp)(Q:VK)(_z3:XK):Prop
 |mk (a ns:_) (_:vs=[.ref a,.int 8]) (_:SqL K H a (ns.map V.int)) (_:Dr ns) (_:∀(H')(p)(n)(q)(ts)(es),Same H H'->NetZ H' p n q ts es->2<=n->es.length<=26->Q (.ref p) H')
theorem scNet:Zm Zm0 ["_law_draws_here","_law_at"] (Zg ZgG):=⟨rfl,rfl,rfl,by decide+kernel,rfl,by decide+kernel,by decide+kernel⟩
theorem Zkw(F:Fun K "_law_net" "_law_net" ZgG f fd)(T:Bi mg)(FD:FnE P w K mg base "_law_draw" ["_law_draws_here","_law_k"] 1 (Zeo K))(FT:FnE P w K mg base "_law_tie" ["_law_number","_law_k","_law_points","_law_kind"] 1 spTie):FnOk P w K mg base CX0 2 f fd ["_law_draws_here","_law_at"] (Zjr K):=by
 refine F.ok scNet (fun vs H Q E h=>?_) (fun cdv A outer s H vs Q E hr h=>?_)
 ·obtain⟨a,ns,rfl,_⟩:=h
  rfl
 ·obtain⟨a,ns,rfl,hS,hD,q⟩:=h
  obtain⟨t4,h4,r4⟩:∃t,PSs (Yg CX0 P w K mg base Zm0 "_law_net" (Zg ZgG) f cdv A outer s H E).nox ((ZE ZgG).drop 4) t/\∀pt kd:Int,2<=pt->pt<=60->
    t {nx:=fun _ H'=>Q .non H',rt:=Q} [some (.ref a),some (.int 8),some (.int pt),some (.int kd),none,none,none,none] H:=by
   refine⟨_,Zb (Zl (i:=4) scNet.nd rfl (Or.inl rfl) (Zt ZN (Zs FD hr (Zc (pv 0) (Zc (Zt ZS (pv 1) Ze) Za))) Ze))
    (Zb (Zl (i:=5) scNet.nd rfl (Or.inl rfl) (ZI Za))
    (Zb (ZG QD rfl (ZZ rfl T.range (Zc (pv 4) Za)) (Zu (i:=6) scNet.nd rfl (Or.inl rfl))
     (Zb (Zl (i:=7) scNet.nd rfl (Or.inl rfl) (Zs FT hr (Zc (Zs FD hr (Zc (pv 0) (Zc (Zt ZS (Zt ZS (pv 1) Ze) (pv 6)) Za))) (Zc (pv 6) (Zc (pv 2) (Zc (pv 3) Za))))))
     (Zf (Z2 (PW.pt (pw_or (Zp Zcw (pv 3) Ze (Zx _)) (pw_or1 (PW.pt (pw_and (Zp (Zcv hr) (pv 7) (pv 5) rfl) (pw_and1 (Zp (Zcv hr) (Z1 (Zc (Zk Zj (pv 7) Ze (fun _ _=>rfl)) (Zc (Zk Zj (pv 7) Ze (fun _ _=>rfl)) Za))) (pv 5) rfl)))))))
      (Zf (ZF (Y6 QB QG QH ZC (pv 5) (Zc (pv 7) Za)))) Zw))))
    (Zf (Zn (Z1 (Zc (pv 2) (Zc (Z8 Z6 rfl T.tuple Y2 (Zc (pv 5) Za)) Za))))))),fun pt kd p2 p60=>⟨_,rfl,_,rfl,_,_,rfl,rfl,a,ns,_,rfl,hS,hD,by decide,by decide,_,_,rfl,rfl,(by show(0:Int)<27;decide),?_⟩⟩
   obtain⟨mm,hmm⟩:∃m:Nat,draw ns (8+2)%27=(m:Int):=⟨(draw ns (8+2)%27).toNat,by omega⟩;dsimp only[ZaZ];rw[hmm];refine⟨QE _,fun L hL=>?_⟩;have s0:Same H (upd H L (.lst [])):=Zh hL;have g0:(upd H L (.lst [])) L=some (.lst []):=Zd;generalize upd H L (.lst [])=H0 at s0 g0;refine⟨_,rfl,_,rfl,by omega,by omega,Y1 (lo:=0) (n:=(mm:Int).toNat) (fun i σ G=>E3 fun(tr:List (Addr×Int×Int))(v6 v7:Option V)=>σ=[some (.ref a),some (.int 8),some (.int pt),some (.int kd),some (.int (mm:Int)),some (.ref L),v6,v7]/\Same H G/\G L=some (.lst (tr.map fun t=>V.ref t.1))/\tr.length<=i/\∀t∈tr,G t.1=some (.tup [.int t.2.1,.int t.2.2])/\0<=t.2.1/\t.2.1<pt/\0<=t.2.2/\t.2.2<pt/\t.2.1≠t.2.2)
    ⟨[],_,_,rfl,s0,g0,Qe _,fun t ht=>by cases ht⟩ (fun i σ G hi xq1=>?_) (fun σ G xq1=>?_)⟩
   ·obtain⟨tr,v6,v7,e,sG,gL,hle,hT⟩:=xq1
    subst e;refine⟨_,rfl,_,rfl,_,_,rfl,rfl,_,rfl,_,_,rfl,rfl,a,ns,_,rfl,sG.seq hS,hD,by omega,by omega,_,rfl,_,rfl,_,rfl,_,_,_,_,rfl,ZiZ _ _,by omega,p2,p60,fun x y t G1 x0 x1 y0 y1 ne s1 ht=>?_⟩;have sG1:=Same.trans sG s1;have app:∀G2,Same G1 G2->Same H (upd G2 L (.lst (tr.map (fun t=>V.ref t.1)++[.ref t])))/\(upd G2 L (.lst (tr.map (fun t=>V.ref t.1)++[.ref t]))) L=some (.lst ((tr++[(t,x,y)]).map fun t=>V.ref t.1))/\(tr++[(t,x,y)]).length<=i+1/\∀u∈tr++[(t,x,y)],(upd G2 L (.lst (tr.map (fun t=>V.ref t.1)++[.ref t]))) u.1=some (.tup [.int u.2.1,.int u.2.2])/\0<=u.2.1/\u.2.1<pt/\0<=u.2.2/\u.2.2<pt/\u.2.1≠u.2.2:=fun G2 s2=>by
     have gL2:=s2 _ _ (s1 _ _ gL);refine⟨(Same.trans sG1 s2).wr hL,by rw[Zd,QO];rfl,by rw[Qk];exact Nat.succ_le_succ hle,fun u hu=>?_⟩;rcases Qw.mp hu with z|z
     ·obtain⟨z1,z2⟩:=hT u z
      have z3:=s2 _ _ (s1 _ _ z1);exact⟨by rw[Zi fun e=>by rw[e,gL2]at z3;cases z3];exact z3,z2⟩
     ·rw[Qf.mp z]
      have z3:=s2 _ _ ht;exact⟨by rw[Zi (fun(e:t=L)=>by rw[e,gL2]at z3;cases z3)];exact z3,x0,x1,y0,y1,ne⟩
    have inn:∀G2,Same G1 G2->∀t'∈tr.map (fun t=>(t.1,[t.2.1,t.2.2])),SqT K G2 t'.1 (t'.2.map V.int):=fun G2 s2 t' ht'=>by
     obtain⟨u,hu,rfl⟩:=QQ.mp ht';exact SqT.of (s2 _ _ (s1 _ _ (hT u hu).1))
    have mp:(tr.map (fun t=>(t.1,[t.2.1,t.2.2]))).map (fun t:Addr×List Int=>V.ref t.1)=tr.map fun t=>V.ref t.1:=by rw[U4];rfl
    refine⟨_,rfl,rfl,_,rfl,Z3 (fun _=>?_) (fun _=>?_)⟩
    ·exact Yi ⟨_,rfl,.inl ⟨rfl,_,SqL.of (s1 _ _ gL)⟩,_,rfl,L,_,_,rfl,rfl,s1 _ _ gL,(by rw[Qq,QP];omega),_,_,_,rfl,app G1 (Same.refl _)⟩
    ·refine⟨_,rfl,_,rfl,t,L,[x,y],tr.map (fun t=>(t.1,[t.2.1,t.2.2])),rfl,rfl,SqT.of ht,SqL.of (by rw[mp];exact s1 _ _ gL),inn G1 (Same.refl _),_,rfl,Z3 (fun _=>?_) (fun _=>?_)⟩
     ·refine⟨_,rfl,t,_,_,_,rfl,rfl,SqT.of ht,rfl,_,rfl,t,_,_,_,rfl,rfl,SqT.of ht,rfl,rfl,fun t2 G2 s2 ht2=>⟨_,rfl,t2,L,[y,x],tr.map (fun t=>(t.1,[t.2.1,t.2.2])),rfl,rfl,SqT.of ht2,SqL.of (by rw[mp];exact s2 _ _ (s1 _ _ gL)),inn G2 s2,_,rfl,Z3 (fun _=>?_) (fun _=>?_)⟩⟩
      ·exact⟨_,rfl,.inl ⟨rfl,_,SqL.of (s2 _ _ (s1 _ _ gL))⟩,_,rfl,L,_,_,rfl,rfl,s2 _ _ (s1 _ _ gL),(by rw[Qq,QP];omega),_,_,_,rfl,app G2 s2⟩
      ·exact⟨tr,_,_,rfl,Same.trans sG1 s2,s2 _ _ (s1 _ _ gL),by omega,fun u hu=>⟨s2 _ _ (s1 _ _ (hT u hu).1),(hT u hu).2⟩⟩
     ·exact ZA ⟨tr,_,_,rfl,sG1,s1 _ _ gL,by omega,fun u hu=>⟨s1 _ _ (hT u hu).1,(hT u hu).2⟩⟩
   ·obtain⟨tr,v6,v7,e,sG,gL,hle,hT⟩:=xq1
    subst e;refine⟨_,rfl,_,rfl,L,_,rfl,.inl gL,fun u H3 s3 hu=>⟨rfl,fun p H4 s4 hp=>?_⟩⟩;have sA:Same G H4:=Same.trans s3 s4;obtain⟨es,N⟩:=ZiE (n:=pt) hp (s4 _ _ hu) (by rw[Qq];omega) (fun v hv=>by
     obtain⟨t,ht,rfl⟩:=QQ.mp hv;obtain⟨z1,z2⟩:=hT t ht;exact⟨t.1,_,_,rfl,sA _ _ z1,z2⟩) (by omega) (by omega) (Int.le_refl _)
    exact q H4 p _ u _ es (Same.trans sG sA) N (by omega) (by have:=N.len;rw[Qq]at this;omega)
  refine⟨_,Zb (Zl (i:=2) scNet.nd rfl (Or.inl rfl) (Zt ZS Ze (Zt ZN (Zs FD hr (Zc (pv 0) (Zc (pv 1) Za))) Ze)))
   (Zb (Zl (i:=3) scNet.nd rfl (Or.inl rfl) (Zt ZN (Zs FD hr (Zc (pv 0) (Zc (Zt ZS (pv 1) Ze) Za))) Ze))
   (Zb (Z2 (Zp ZK (pv 3) Ze (Zx _)) (Zf (Zl (i:=2) scNet.nd rfl (Or.inl rfl) (Zt ZS Ze (Zt ZN (pv 2) Ze)))) Zw)
   (Zb (Z2 (Zp ZK (pv 3) Ze (Zx _)) (Zf (Zl (i:=2) scNet.nd rfl (Or.inl rfl) Ze)) Zw) h4))),_,rfl,_,rfl,a,ns,_,rfl,hS,hD,by decide,by decide,_,_,rfl,rfl,(by show(0:Int)<12;decide),_,_,rfl,rfl,?_⟩
  refine⟨_,rfl,_,rfl,_,_,rfl,rfl,a,ns,_,rfl,hS,hD,by decide,by decide,_,_,rfl,rfl,(by show(0:Int)<7;decide),?_⟩;have fin:∀pt kd:Int,2<=pt->pt<=60->∀z:Bool,if z=true then t4 {nx:=fun _ H'=>Q .non H',rt:=Q} [some (.ref a),some (.int 8),some (.int 60),some (.int kd),none,none,none,none] H else t4 {nx:=fun _ H'=>Q .non H',rt:=Q} [some (.ref a),some (.int 8),some (.int pt),some (.int kd),none,none,none,none] H:=fun pt kd p2 p60 z=>Z3 (fun _=>r4 60 kd (by decide) (by decide)) (fun _=>r4 pt kd p2 p60);refine⟨_,rfl,rfl,_,rfl,Z3 (fun _=>?_) (fun _=>?_)⟩
  ·exact⟨_,rfl,_,_,rfl,rfl,(by show(0:Int)<3;decide),_,_,rfl,rfl,_,rfl,rfl,_,rfl,fin _ _ (by omega) (by omega) _⟩
  ·exact⟨_,rfl,rfl,_,rfl,fin _ _ (by omega) (by omega) _⟩
end
end My
namespace L2
open PySem PySem.Spec PyProof.Rows
theorem Zi6{X:Cx}{scope:Scope}{cl:List (Str×Addr)}{N:List Str}{bs:List (Option Nat)}{tg a elt:Expr}{ifs:List Expr}{p pos' pos:Pos}{ta:TA}{g:TG}{tt:TT}{te:TE}(B:BlkC X scope cl N bs)(hc:X.calm=true)
  (hgl:Gl X "range")(hmr:X.mg "range"=none)(ha:PA X [a] ta)(hm:JR ta)(hpl:ZV a=true)(hg:∀C fp s H,PG (ZJ X scope cl C N fp s H) tg g) (ht:∀C fp s H,PTs (ZJ X scope cl C N fp s H) ifs tt) (he:∀C fp s H,PE (ZJ X scope cl C N fp s H) elt te)
  (hs:∀x,foldedSetIterable (.Call (.Name "range" p) [a] [] pos') X.env x=pure x:=by intro _;rfl):PE X (.ListComp elt [⟨tg,.Call (.Name "range" p) [a] [] pos',ifs,0⟩] scope pos) (ZjF bs ta g tt te):=by
 intro pins s σ H Q I h;refine @Zew X scope cl N bs tg _ elt ifs pos (Zhv ta) g tt te B hc (@ZZ X tg a ta p pos' hgl hmr ha (ZY hpl)) hg ht he hs pins s σ H Q I ?_;refine hm σ H _ _ (fun vs H1 h=>?_) h;obtain⟨n,e,hz,Pv,p0,pl,ps,pd⟩:=h;refine⟨(n:Int),e,by simp,by omega,?_⟩;rw[Q1];exact ZbG (Q:=Q) Pv (Yh hz) p0 pl ps fun ys σ H hp p hpn=>pd ys σ H hp p _ (Z0 hpn) Zd
theorem Znd{X:Cx}{scope:Scope}{cl:List (Str×Addr)}{N:List Str}{bs:List (Option Nat)}{tg iter elt:Expr}{ifs:List Expr}{pos:Pos}{tl:TE}{g:TG}{tt:TT}{te:TE}(B:BlkC X scope cl N bs)(hc:X.calm=true)
  (hl:PE X iter tl)(hm:Jb tl)(hg:∀C fp s H,PG (ZJ X scope cl C N fp s H) tg g) (ht:∀C fp s H,PTs (ZJ X scope cl C N fp s H) ifs tt) (he:∀C fp s H,PE (ZJ X scope cl C N fp s H) elt te)
  (hs:∀x,foldedSetIterable iter X.env x=pure x:=by intro _;rfl):PE X (.ListComp elt [⟨tg,iter,ifs,0⟩] scope pos) (Zll X.K bs tl g tt te):=by
 intro pins s σ H Q I h;refine @Zew X scope cl N bs tg iter elt ifs pos (Zj3 X.K tl) g tt te B hc (@JI X _ _ _ hl) hg ht he hs pins s σ H Q I ?_;refine hm σ H _ _ (fun x H1 h=>?_) h;obtain⟨a,xs,e,hS,hz,Pv,p0,pl,ps,pd⟩:=h;exact⟨a,e,⟨xs,hS⟩,Zfl (Q:=Q) Pv (Yh hz) p0 pl ps fun ys σ H hp p hpn=>pd ys σ H hp p _ (Z0 hpn) Zd⟩
end L2
namespace L2
open PySem PySem.Spec PyProof.Rows PySem.SeqAt
section
variable{X:Cx}
inductive ZgN(K:PySem.W.Frag)(x:V)(y:V)(H:Hp)(Q:VK):Prop
 |mk (p l:Addr) (ns:List Int) (tr:List (Addr×List Int)) (_:x= .ref p) (_:y= .ref l) (_:SqT K H p (ns.map V.int)) (_:SqT K H l (tr.map fun t=>V.ref t.1)) (_:(∀t∈tr,SqT K H t.1 (t.2.map V.int))) (_:Q (.bl (!tr.any fun t=>decide (t.2=ns))) H)
theorem Zb9(hr:Room k X.A):OpR X (compareOp .NotIn) (ZgN X.K):=by
 intro pins s σ H x y v u Q I rx ry h;obtain⟨p,l,i,d,rfl,rfl,hp,hl,ht,q⟩:=h;cases rx;cases ry;obtain⟨its,r,pl,hz⟩:=I.tuple hl;have e:=Zb2 r;subst e;have hun:=hr.un;have hinj:∀t∈d,∀g∈d,t.1=g.1->t.2=g.2:=fun t j g m z=>by
  have b:=ht g m;rw[<-z]at b;exact(List.map_inj_right (fun x y z=>V.int.inj z)).mp (I.tuple_inj (ht t j) b)
 refine SeqAt.notIn_tupleAt (fun w=>@decide (∃t∈d,w=Value.ref t.1/\t.2=i) (Classical.propDecidable _)) pl (fun w hw=>?_) ⟨.bl _,H,I,rfl,?_⟩
 ·obtain⟨t,j,rfl⟩:=QQ.mp (show w∈d.map fun t=>Value.ref t.1 by simpa using hw)
  have e:=Zf0 I (A:=X.A.in1) (by grind) (ht t j) hp;have e2:@decide (∃g∈d,Value.ref t.1=Value.ref g.1/\g.2=i) (Classical.propDecidable _)=decide (t.2=i):=by
   grind
  rw[e2];exact e
 ·have e:((d.map fun t=>Value.ref t.1).toArray.any fun w=>@decide (∃t∈d,w=Value.ref t.1/\t.2=i) (Classical.propDecidable _))=d.any fun t=>decide (t.2=i):=by
   rw[Bool.eq_iff_iff,UK,show(d.map fun t=>Value.ref _).toArray.any (fun w=>@decide _ (Classical.propDecidable _))=(d.map fun t=>Value.ref t.1).any (fun w=>@decide (∃t∈d,w=Value.ref t.1/\t.2=i) (Classical.propDecidable _)) by simp,UK];constructor
   ·rintro⟨w,_,z⟩
    obtain⟨t,j,_,m⟩:=@Qr _ (Classical.propDecidable _) z;exact⟨t,j,Qu m⟩
   grind
  rw[e];exact q
end
theorem Zi5{K}{scope}{cl}{N}{bs}{tg iter elt}{ifs}{pos}{tl}{g}{tt}{te}(hK:X.K=K)(B:Blk X scope cl N bs)(hc:X.calm=true)
  (hl:PE X iter tl)(hm:Jb tl)(hg:∀C fp s H,PG (Z4 X scope cl C N fp s H) tg g) (ht:∀C fp s H,PTs (Z4 X scope cl C N fp s H) ifs tt) (he:∀C fp s H,PE (Z4 X scope cl C N fp s H) elt te)
  (hs:∀x,foldedSetIterable iter X.env x=pure x:=by intro _;rfl):PE X (.ListComp elt [⟨tg,iter,ifs,0⟩] scope pos) (ZjE K bs tl g tt te):=by
 subst hK;exact Zb7 B hc hl hm hg ht he hs
end L2
namespace My
open PySem L2
theorem ZmV:bootBuiltins "set"=some (.type "set"):=by decide+kernel
theorem ZkB(l):nl l=(l.map fun x:Nat=>(x:Int)).map V.int:=by
 rw[U4];rfl
theorem Zj0{i:Nat}{v}(h:(nl l)[i]?=some v):∃x:Nat,l[i]?=some x/\v= .int (x:Int):=by
 unfold nl at h;rw[Qx]at h;cases q:l[i]? with
 |none=>simp_all
 |some x=>simp_all
theorem ZhI(es)(n):(dl es n).length=n:=by
 unfold dl
 grind
theorem Zja(es)(i):dl es (i+1)=dl es i++[(dg es es.length i:Int)]:=by
 unfold dl;rw[UA,QO];rfl
def Zl9:Stmt->Scope
 | .Return (some (.Call _ [.ListComp _ _ s _] _ _)) _=>s
 |_=>{kind:= .function,names:=[],isGenerator:=false,isCoroutine:=false}
def ZjZ:Stmt->Scope
 | .Return (some (.Call _ [.ListComp (.Call _ [.ListComp _ _ s _] _ _) _ _ _] _ _)) _=>s
 |_=>{kind:= .function,names:=[],isGenerator:=false,isCoroutine:=false}
section
variable{P:Program}{w:World}{K:PySem.W.Frag}{mg:Str->Option Value}{base:Heap}
abbrev sLm:Stmt:=top 65
abbrev Zm1:Scope:=Zl9 (stOf 65 0)
abbrev ZnY:Scope:=ZjZ (stOf 65 0)
abbrev nL1:List Str:=["_law_point","_law_net_here"]
inductive spLm(vs:List V)(H:Hp)(Q:VK)(_z3:XK):Prop
 |mk (p n q ts es:_) (_:vs=[.ref p]) (_:NetZ H p n q ts es) (_:0<n) (_:∀(H')(M),Same H H'->IsMax (dl es n) M->Q (.int M) H')
theorem ZnQ:nL1.Nodup:=by decide+kernel
theorem ZnP:(["_law_tie_here","_law_point"]:List Str).Nodup:=by decide+kernel
theorem Znz:Zm ["_law_net_here"] ["_law_net_here"] (Zg sLm):=⟨rfl,rfl,rfl,by decide+kernel,rfl,by decide+kernel,by decide+kernel⟩
theorem ZmQ:
  BlkC (Yg CX0 P w K mg base ["_law_net_here"] "_law_most" (Zg sLm) f cdv A outer s H E).nox Zm1 [("_law_net_here",s.heap.objs.size+1)] nL1 [none,some 0]:=by
 refine⟨rfl,rfl,by decide+kernel,by decide+kernel,fun p c=>?_,fun y d e=>?_,⟨rfl,rfl,rfl⟩,trivial⟩
 ·rw[Qf.mp c]
  rfl
 ·have _:y∈[((PySem.Str.ofString _),NameKind.local),(PySem.Str.ofString _,.cell),(PySem.Str.ofString _,.globalImplicit),(PySem.Str.ofString _,.free)]:=d
  grind
theorem ZmP{H H'}{E}{C}{fp}:
  Blk (ZJ (Yg CX0 P w K mg base ["_law_net_here"] "_law_most" (Zg sLm) f cdv A outer s H E).nox Zm1 [("_law_net_here",s.heap.objs.size+1)] C nL1 fp s' H') ZnY [("_law_point",C+1)] ["_law_tie_here","_law_point"] [none,some 0]:=by
 refine⟨rfl,rfl,by decide+kernel,by decide+kernel,fun p c=>?_,fun y d e=>?_,⟨rfl,rfl,rfl⟩,trivial⟩
 ·rw[Qf.mp c]
  rfl
 ·have _:y∈[((PySem.Str.ofString _),NameKind.local),(PySem.Str.ofString _,.local),(PySem.Str.ofString _,.free)]:=d
  grind
theorem Zmf(F:Fun K "_law_most" "_law_most" sLm f fd)(T:Bi mg):FnOk P w K mg base CX0 1 f fd ["_law_net_here"] spLm:=by
 refine F.ok Znz (fun vs H Q E h=>?_) (fun cdv A outer s H vs Q E hr h=>?_)
 ·obtain⟨p,n,q,ts,d,rfl,_⟩:=h
  rfl
 ·obtain⟨p,n,qa,ts,d,rfl,N,n0,q⟩:=h
  have h60:=N.n60;have h200:=N.l200;have j:=N.len;refine⟨_,Zf (Zn (Zo (ZaR rfl) rfl T.max ZhU (Zc (Zi6 ZmQ rfl rfl T.range (Zc (Zk Zj (pv 0) Ze (fun _ _=>rfl)) Za) (Z7 (YI (Z9 0) (JX _)) Ye) rfl
   (fun C m s H=>Zu (i:=0) ZnQ rfl (Or.inr rfl)) (fun C m s H=>Zbd)
   (fun C m s H=>Zo (Zgt (K:=K) rfl) rfl T.len Yv (Zc (Zi5 (K:=K) rfl ZmP rfl (Zk (Zax (K:=K) rfl) (pv 1) Ze (fun _ _=>rfl)) (YI (Z9 1) (JX _)) (fun C m s H=>Zu (i:=0) ZnP rfl (Or.inl rfl))
    (fun C m s H=>Y4 (Zp (Ze0 (K:=K) rfl) (pv 1) (pv 0) rfl)) (fun C m s H=>pv 0)) Za))) Za))),_,rfl,p,_,_,_,rfl,rfl,SqT.of N.e1,rfl,n,rfl,by omega,fun i ys σ G=>Same H G/\ys=(dl d i).map V.int/\∃r,σ=[r,some (.ref p)],⟨Same.refl _,rfl,none,rfl⟩,fun i ys σ G hi⟨_,e,_⟩=>(by rw[e,Qq,ZhI];exact Qe _),fun i ys σ G hi xq1=>?_,fun ys σ G xq1 l G2 s2 hl=>?_⟩
  ·obtain⟨c,e1,r,e⟩:=xq1
   subst e1 e;refine⟨_,rfl,p,_,_,_,rfl,rfl,SqT.of (c _ _ N.e1),rfl,qa,_,rfl,SqT.of (c _ _ N.e2),by omega,fun k zs σ G'=>Same G G'/\zs.length=dg d k i/\∃r,σ=[r,some (.int (0+i))],⟨Same.refl _,rfl,none,rfl⟩,fun k zs σ G' hk⟨b,g,_⟩=>⟨SqT.of (b _ _ (c _ _ N.e2)),by rw[g];exact Zj6 d k i⟩,fun k x zs σ G' hx xq1=>?_,fun zs σ G' xq1 l G2 s2 hl=>?_⟩
   ·obtain⟨b,g,r,e⟩:=xq1
    subst e;obtain⟨a,rfl,ha⟩:=N.tie k x hx;refine⟨_,rfl,_,rfl,a,_,rfl,.inr (SqT.of (b _ _ (c _ _ ha))),rfl,rfl,_,rfl,?_⟩;rw[U5];refine Z3 (fun hh=>⟨_,rfl,b,?_,_,rfl⟩) (fun hh=>⟨b,?_,_,rfl⟩)
    ·rw[Zdi,if_pos (atB_iff.mpr ((ZaY i (d.getD k (0,0))).mp hh)),Qk,g]
     rfl
    ·rw[Zdi,if_neg (fun z=>(fun z=>hh ((ZaY i (d.getD k (0,0))).mpr z)) (atB_iff.mp z)),g]
     rfl
   ·obtain⟨b,g,_⟩:=xq1
    refine⟨l,_,rfl,.inl (SqL.of hl),Same.trans c (Same.trans b s2),?_,_,rfl⟩;rw[Zja,QO,g,j];rfl
  ·obtain⟨c,e1,_⟩:=xq1
   subst e1;exact⟨l,dl d n,rfl,.inl (SqL.of hl),by rw[ZhI];exact n0,fun M m1 m2=>q G2 M (Same.trans c s2) (.inr ⟨m1,m2⟩)⟩
abbrev sWh:Stmt:=top 66
inductive Zls(K:PySem.W.Frag)(vs:List V)(H:Hp)(Q:VK)(_z3:XK):Prop
 |mk (v:_) (_:vs=[v]) (_:((∃i,v= .int i/\Q (.bl true) H)\/(∃t,JO K H v (.type t)/\PySem.W.kitOne K (.type t) (.type "int")=some false/\Q (.bl false) H)))
theorem Znt:Zm ["_law_found"] ["_law_found"] (Zg sWh):=⟨rfl,rfl,rfl,by decide+kernel,rfl,by decide+kernel,by decide+kernel⟩
theorem ZlL(F:Fun K "_law_whole" "_law_whole" sWh f fd)(T:Bi mg):FnOk P w K mg base CX0 1 f fd ["_law_found"] (Zls K):=by
 refine F.ok Znt (fun d H Q E h=>?_) (fun _ A _ s H d Q E _ h=>?_)
 ·obtain⟨v,rfl,_⟩:=h
  rfl
 ·obtain⟨v,rfl,h⟩:=h
  refine⟨_,Zf (Zn (Ys (Zo ZU rfl T.isi Zaf (Zc (pv 0) (Zc (YC (v:= .ty "int") rfl T.int ZkW rfl) Za)))
   (YO (Zeu (Zo ZU rfl T.isi Zaf (Zc (pv 0) (Zc (YC (v:= .ty "bool") rfl T.bool Zj7 rfl) Za))))))),?_⟩
  rcases h with⟨i,rfl,q⟩|⟨t,ty,e,q⟩
  ·exact⟨_,rfl,_,_,_,_,rfl,.int i,kit K _ _ _ (by decide+kernel),_,rfl,Yi ⟨_,rfl,_,_,_,_,rfl,.int i,kit K _ _ false (by decide+kernel),_,rfl,q⟩⟩
  ·exact⟨_,rfl,_,_,_,_,rfl,ty,e,_,rfl,ZA q⟩
abbrev sNu:Stmt:=top 67
def nuC:Stmt->Scope
 | .Return (some (.Compare (.Call _ [.ListComp _ _ s _] _ _) _ _ _)) _=>s
 |_=>{kind:= .function,names:=[],isGenerator:=false,isCoroutine:=false}
abbrev nuS:Scope:=nuC (stOf 67 1)
abbrev nNu:List Str:=["_law_found","_law_most_here"]
theorem ZnM:(["_law_one","_law_most_here"]:List Str).Nodup:=by decide+kernel
theorem Zny:Zm nNu nNu (Zg sNu):=⟨rfl,rfl,rfl,by decide+kernel,rfl,by decide+kernel,by decide+kernel⟩
theorem ZmM:
  Blk (Yg CX0 P w K mg base nNu "_law_numbers" (Zg sNu) f cdv A outer s H E).nox nuS [("_law_most_here",s.heap.objs.size+1)] ["_law_one","_law_most_here"] [none,some 1]:=by
 refine⟨rfl,rfl,by decide+kernel,by decide+kernel,fun p c=>?_,fun y d e=>?_,⟨rfl,rfl,rfl⟩,trivial⟩
 ·rw[Qf.mp c]
  rfl
 ·have _:y∈[((PySem.Str.ofString _),NameKind.local),(PySem.Str.ofString _,.local),(PySem.Str.ofString _,.globalImplicit),(PySem.Str.ofString _,.free)]:=d
  grind
inductive spNu(vs:List V)(H:Hp)(Q:VK)(_z3:XK):Prop
 |mk (r:Addr) (l:List Nat) (b:Nat) (_:vs=[.ref r,.int b]) (_:H r=some (.tup (nl l))) (_:l.length<=1000) (_:(∀x∈l,x<b)) (_:∀H',Same H H'->Q (.bl true) H')
theorem Zma(F:Fun K "_law_numbers" "_law_numbers" sNu f fd)(T:Bi mg)(FW:FnE P w K mg base "_law_whole" ["_law_found"] 1 (Zls K)):FnOk P w K mg base CX0 2 f fd nNu spNu:=by
 refine F.ok Zny (fun vs H Q E h=>?_) (fun cdv A _ s H vs Q E hr h=>?_)
 ·obtain⟨r,l,b,rfl,_⟩:=h
  rfl
 ·obtain⟨r,l,b,rfl,a,hl,k,q⟩:=h
  refine⟨_,Zb (Z2 (Yq (Yb (Zo ZU rfl T.isi Zaf (Zc (pv 0) (Zc (YC (v:= .ty "tuple") rfl T.tuple Y2 rfl) Za))))) ZO Zw)
   (Zf (Zn (Yr ZK (Zo Zr rfl T.len Yv (Zc (Zb7 ZmM rfl (pv 0) (Z9 0) (fun C fp s H=>Zu (i:=0) ZnM rfl (Or.inl rfl)) (fun C fp s H=>Y4 (PW.pt (pw_and (Yb (Zs FW hr (Zc (pv 0) Za))) (pw_and1 (ZgO Zjx ZaX Ze (pv 0) (pv 1)))))) (fun C fp s H=>pv 0)) Za)) (Zo Zr rfl T.len Yv (Zc (pv 0) Za)) (Zx _)))),_,rfl,_,_,_,_,rfl,.tup a,kit K "tuple" "tuple" true (by decide+kernel),_,rfl,ZA ?_⟩
  refine⟨_,rfl,r,_,rfl,SqT.of a,by rw[Zy];omega,fun i d σ G=>Same H G/\d.length=i/\∃v0,σ=[v0,some (.int (b:Int))],⟨Same.refl H,rfl,_,rfl⟩,fun i d σ G hi⟨c,e,_⟩=>⟨SqT.of (c _ _ a),Nat.le_of_eq e⟩,fun i x d σ G hx xq1=>?_,fun d σ G xq1 lc G2 m g=>?_⟩
  ·obtain⟨c,e,v0,eσ⟩:=xq1
   subst eσ;obtain⟨u,hu,rfl⟩:=Zj0 hx;have hub:=k u (Qj hu);exact⟨_,rfl,_,rfl,.inl ⟨_,rfl,_,rfl,Yi ⟨_,rfl,_,_,rfl,rfl,_,rfl,Z3 (fun _=>⟨_,rfl,_,_,rfl,rfl,_,rfl,Z3 (fun _=>⟨_,rfl,c,by rw[Qk,e];rfl,_,rfl⟩) (fun z=>absurd (Qu (by omega)) z)⟩) (fun z=>absurd (Qu (by simp)) z)⟩⟩⟩
  ·obtain⟨c,e,_⟩:=xq1
   refine⟨lc,_,rfl,.inl (SqL.of g),_,rfl,r,_,rfl,.inr (SqT.of (m _ _ (c _ _ a))),rfl,?_⟩;rw[Qu (by rw[e])];exact q G2 (Same.trans c m)
end
theorem Zfy(ks:List _):∀acc:List _,(ks.foldl SetT.stepK acc).length<=acc.length+ks.length:=by
 induction ks with
 |nil=>simp_all
 |_ k ks a=>
  intro acc;have h:=a (SetT.stepK acc k);have _:(SetT.stepK acc k).length<=acc.length+1:=by
   unfold SetT.stepK
   (split<;>simp_all)
  grind
theorem ZiV(ks:List _):∀acc:List _,(ks.foldl SetT.stepK acc).length<acc.length+ks.length↔¬(ks.Nodup/\∀k∈ks,¬k∈acc):=by
 induction ks with
 |nil=>simp_all
 |_ k ks f=>
  intro acc;rw[List.foldl_cons,QL];by_cases b:k∈acc
  ·rw[(show SetT.stepK _ k=acc by unfold SetT.stepK;rw[if_pos b])]
   have:=Zfy ks acc;exact⟨fun _ h=>h.2 k (.head _) b,fun _=>by omega⟩
  ·rw[(show SetT.stepK _ k=acc++[k] by unfold SetT.stepK;rw[if_neg b])]
   have h:=f (acc++[k]);rw[Qk,QF]at h;rw[show acc.length+(ks.length+1)=acc.length+1+ks.length by omega,h];refine not_congr ⟨fun⟨c,d⟩=>⟨QN.mpr ⟨fun z=>d k z (Qm _ (.head _)),c⟩,fun x e=>?_⟩,fun⟨c,d⟩=>⟨(QN.mp c).2,fun x e z=>?_⟩⟩
   ·grind
   ·simp_all
def nky(e:Nat×Nat):List Int:=[((nrm e).1),((nrm e).2)]
theorem ZiD(h:nky a=nky b):nrm a=nrm b:=by
 have _:=List.cons.inj h
 grind
theorem twin_iff:((es.map nky).foldl SetT.stepK []).length<es.length↔ZdX es:=by
 have h:=ZiV (es.map nky) [];rw[Ur,Nat.zero_add,Qq]at h;rw[h];constructor
 ·refine fun b=>Qv fun f=>b ⟨?_,fun k _ z=>by cases z⟩
  unfold List.Nodup;rw[Ul,List.pairwise_iff_getElem];refine fun i j d c a e=>f ⟨i,j,a,c,?_⟩;rw[Qi,Qi,Qb d,Qb c];exact ZiD e
 ·rintro⟨i,j,a,c,e⟩ ⟨b,_⟩
  unfold List.Nodup at b;rw[Ul,List.pairwise_iff_getElem]at b;refine b i j (by omega) c a ?_;rw[Qi,Qi,Qb (show i<es.length by omega),Qb c]at e;unfold nky;rw[(show nrm es[i]=nrm es[j]from e)]
theorem NetZ.tr{H:Hp}{p q:Addr}{n:Nat}{ts:List V}{es:List (Nat×Nat)}(N:NetZ H p n q ts es):∃tr:List (Addr×List Int),ts=(tr.map fun t=>V.ref t.1)/\tr.map (·.2)=(es.map fun e=>[(e.1:Int),(e.2:Int)])/\∀t∈tr,H t.1=some (.tup (t.2.map V.int)):=by
 have g:∀(ts:List V)(es:List (Nat×Nat)),ts.length=es.length->(∀(i:Nat) t,ts[i]?=some t->∃a,t= .ref a/\H a=some (.tup [.int ((es.getD i (0,0)).1:Int),.int ((es.getD i (0,0)).2:Int)]))->∃tr:List (Addr×List Int),ts=(tr.map fun t=>V.ref t.1)/\tr.map (·.2)=(es.map fun e=>[(e.1:Int),(e.2:Int)])/\∀t∈tr,H t.1=some (.tup (t.2.map V.int)):=by
  intro ts
  induction ts with
  |nil=>intro es d _;cases es with|nil=>simp_all|cons _ _=>cases d
  |cons t ts s=>
   intro es d h;cases es with
   |nil=>cases d
   |cons e es=>
    obtain⟨a,rfl,r⟩:=h 0 t rfl;obtain⟨tr,u,_,o⟩:=s es (by simpa using d) fun i m f=>h (i+1) m (by simpa using f);refine⟨(a,[(e.1:Int),(e.2:Int)])::tr,by rw[u];rfl,by simp_all,fun x j=>?_⟩;rcases Qn.mp j with rfl|j
    ·exact r
    ·exact o x j
 exact g ts es N.len fun i t l=>N.tie i t l
theorem Zeg{tr:List (Addr×List Int)}{es:List (Nat×Nat)}(h:tr.map (·.2)=(es.map fun e=>[(e.1:Int),(e.2:Int)])) (a b:Nat):(tr.any fun t=>decide (t.2=[(a:Int),(b:Int)]))=true↔(a,b)∈es:=by
 rw[UK];constructor
 ·rintro⟨t,c,e⟩
  have _:t.2∈tr.map _:=List.mem_map_of_mem c
  grind
 ·intro _
  obtain⟨t,c,e⟩:=QQ.mp (show[(a:Int),(b:Int)]∈tr.map (·.2) by grind)
  grind
theorem Zjk(h:y∈Sd.adjF es es.length x):(x,y)∈es\/(y,x)∈es:=by
 rw[Sd.mem_adjF]at h;obtain⟨k,a,_⟩:=h;have _:=getD_mem a
 grind
section
variable{P:Program}{w:World}{K:PySem.W.Frag}{mg:Str->Option Value}{base:Heap}
abbrev sTw:Stmt:=top 64
abbrev twS:Scope:=compScope (retE (stOf 64 0))
abbrev nTw:List Str:=["_law_net_here","_law_pairs"]
theorem ZnI:(["_law_tie_here"]:List Str).Nodup:=by decide+kernel
theorem scTw:Zm nTw ["_law_net_here"] (Zg sTw):=⟨rfl,rfl,rfl,by decide+kernel,rfl,by decide+kernel,by decide+kernel⟩
theorem ZmH:
  Blk (Yg CX0 P w K mg base nTw "_law_twins" (Zg sTw) f cdv A outer s H E).nox twS [] ["_law_tie_here"] [none]:=by
 refine⟨rfl,rfl,by decide+kernel,by decide+kernel,fun p d=>(by cases d),fun y g e=>?_,trivial⟩;have _:y∈[((PySem.Str.ofString _),NameKind.local),(PySem.Str.ofString _,.local),(PySem.Str.ofString _,.globalImplicit),(PySem.Str.ofString _,.globalImplicit)]:=g
 grind
inductive spTw(vs:List V)(H:Hp)(Q:VK)(_z3:XK):Prop
 |mk (p n q ts es:_) (_:vs=[.ref p]) (_:NetZ H p n q ts es) (_:∀H' b,Same H H'->(b=true↔ZdX es)->Q (.bl b) H')
theorem ZlN(F:Fun K "_law_twins" "_law_twins" sTw f fd)(T:Bi mg)(hse:mg "set"=none):FnOk P w K mg base CX0 1 f fd ["_law_net_here"] spTw:=by
 refine F.ok scTw (fun vs H Q E h=>?_) (fun cdv A outer s H vs Q E hr h=>?_)
 ·obtain⟨p,n,q,ts,m,rfl,_⟩:=h
  rfl
 ·obtain⟨p,n,qa,ts,m,rfl,N,q⟩:=h
  have h200:=N.l200;have B:=N.len;refine⟨_,Zb (ZgP ZmH rfl (Zk Zj (pv 0) Ze (fun _ _=>rfl)) (YI (Z9 0) (JX _)) (fun C fp s H=>Zu (i:=0) ZnI rfl (Or.inl rfl)) (fun C fp s H=>Zbd)
    (fun C fp s H=>Z1 (Zc (Zo (ZeH (K:=K) rfl rfl) rfl T.min ZmW (Zc (pv 0) Za)) (Zc (Zo (ZeI (K:=K) rfl rfl) rfl T.max ZhU (Zc (pv 0) Za)) Za))) (Zu (i:=1) scTw.nd rfl (Or.inl rfl)) rfl)
   (Zf (Zn (Yr ZaX (Zo Zgs rfl T.len Yv (Zc (Z8 (Zgp hr) rfl hse ZmV (Zc (pv 1) Za)) Za)) (Zo Zr rfl T.len Yv (Zc (pv 1) Za)) (Zx _)))),_,rfl,p,_,_,_,rfl,rfl,SqT.of N.e1,rfl,qa,_,rfl,SqT.of N.e2,by omega,fun i o σ G=>Same H G/\o.length=i/\(∀(j) y,o[j]?=some y->∃b,y= .ref b/\G b=some (.tup ((nky (m.getD j (0,0))).map V.int)))/\∃v0,σ=[v0],⟨Same.refl H,rfl,(fun j y z=>by cases z),none,rfl⟩,fun i o σ G hi⟨r,e,_⟩=>⟨SqT.of (r _ _ N.e2),Nat.le_of_eq e⟩,fun i x o σ G hx xq1=>?_,fun o σ G xq1 l G2 s2 hl=>?_⟩
  ·obtain⟨r,e,hy,v0,eσ⟩:=xq1
   subst eσ;obtain⟨a,rfl,ha⟩:=N.tie i x hx;obtain⟨d,hA⟩:∃d,(m.getD i (0,0)).1=d:=⟨_,rfl⟩;obtain⟨g,hB⟩:∃g,(m.getD i (0,0)).2=g:=⟨_,rfl⟩;rw[hA,hB]at ha;refine⟨_,rfl,a,[(d:Int),(g:Int)],rfl,.inr (SqT.of (r _ _ ha)),(by show 0<2;decide),fun M1 m1 m2=>⟨_,rfl,a,[(d:Int),(g:Int)],rfl,.inr (SqT.of (r _ _ ha)),(by show 0<2;decide),fun M2 m3 m4=>?_⟩⟩;have v:M1=((min d g:Nat):Int):=by
    have h1:=m2 (d:Int) (.head _);have h2:=m2 (g:Int) (.tail _ (.head _));simp[Qn,Qt,Q3]at m1;omega
   have t:M2=((max d g:Nat):Int):=by
    have h1:=m4 (d:Int) (.head _);have h2:=m4 (g:Int) (.tail _ (.head _));simp[Qn,Qt,Q3]at m3;omega
   subst v t;refine⟨rfl,fun u G2 s2 hu=>⟨Same.trans r s2,by rw[Qk,e];rfl,fun j y hj=>?_,_,rfl⟩⟩;by_cases hlt:j<o.length
   ·rw[QJ hlt]at hj
    obtain⟨b,v,t⟩:=hy j y hj;exact⟨b,v,s2 _ _ t⟩
   ·have:=(Qd.mp hj).1
    rw[Qk]at this;have ej:j=o.length:=by simp[QL,Ur]at this;omega
    subst ej;rw[Q0 (Qe _),Vh]at hj;cases hj;exact⟨u,rfl,by rw[e,(show nky (m.getD i (0,0))=[((min d g:Nat):Int),((max d g:Nat):Int)] by unfold nky nrm;rw[hA,hB])];exact hu⟩
  ·obtain⟨r,e,hy,_⟩:=xq1
   rw[B]at e;refine⟨_,rfl,l,o,m.map nky,rfl,SqL.of hl,by rw[Qq,e],by omega,fun i y k h1 h2=>?_,fun z G3 s3 hz=>?_⟩
   ·obtain⟨b,v,t⟩:=hy i y h1
    refine⟨b,v,?_⟩;rw[Qx]at h2;have hi:=(Qd.mp h1).1;rw[Qb (show i<m.length by omega)]at h2;cases h2;rw[Qi,Qb (show i<m.length by omega)]at t;exact s2 _ _ t
   ·have hle:=Zfy (m.map nky) []
    rw[Ur,Nat.zero_add,Qq]at hle;refine⟨z,_,rfl,hz,by omega,_,rfl,l,_,rfl,.inl (SqL.of (s3 _ _ hl)),_,_,rfl,rfl,q G3 _ (Same.trans r (Same.trans s2 s3)) ?_⟩;rw[decide_eq_true_iff,e,<-twin_iff];simp
end
theorem ZfV{R:List _}(h:R.Nodup):(R.map fun x:Nat=>(x:Int)).Nodup:=by
 unfold List.Nodup;rw[Ul];exact List.Pairwise.imp (fun{a b} q z=>q (Int.ofNat_inj.mp z)) (List.nodup_iff_pairwise_ne.mp h)
theorem ZbC:∀{n}{l:List _},l.Nodup->(∀x∈l,x<n)->l.length<=n:=by
 intro n l f j;have c:∀(l d:List Nat),l.Nodup->l⊆d->l.length<=d.length:=by
  intro l
  induction l with
  |nil=>simp_all
  |_ a l i=>
   intro d f c;obtain⟨g,e⟩:=QN.mp f;have _:=c (.head _);have:=i (d.erase a) e fun b h=>(List.mem_erase_of_ne (fun z=>g (by grind))).mpr (c (.tail _ h))
   grind
 have:=c l _ f fun x k=>QC.mpr (j x k)
 simp_all
theorem Zdz{a b:Nat}{ns:List _}(hp:ns.Perm [(a:Int),(b:Int)])(hs:ns.Pairwise (·<=·)):ns=nky (a,b):=by
 match ns,hp.length_eq with
 |[x,y],_=>
  have _:=(Vb.mp hs).1 y (.head _);have f:=hp.mem_iff (a:=x);have e:=hp.mem_iff (a:=y);have c:=hp.mem_iff (a:=(a:Int));have d:=hp.mem_iff (a:=(b:Int));simp[Qn,Qt,Q3,true_or,or_true,true_iff,iff_true]at f e c d;show[x,y]=[((min a b:Nat):Int),((max a b:Nat))]
  grind
section
variable{P:Program}{w:World}{K:PySem.W.Frag}{mg:Str->Option Value}{base:Heap}
abbrev sRi:Stmt:=top 68
abbrev nRi:List Str:=["_law_net_here","_law_ring","_law_k","_law_here","_law_there"]
theorem scRi:Zm nRi ["_law_net_here","_law_ring"] (Zg sRi):=⟨rfl,rfl,rfl,by decide+kernel,rfl,by decide+kernel,by decide+kernel⟩
inductive spRi(vs:List V)(H:Hp)(Q:VK)(_z3:XK):Prop
 |mk (p n q ts es v R m:_) (_:vs=[.ref p,v]) (_:NetZ H p n q ts es) (_:RingAt H es n v R m) (_:∀H',Same H H'->Q (.bl true) H')
theorem ZlW(F:Fun K "_law_is_ring" "_law_is_ring" sRi f fd)(T:Bi mg)(hse:mg "set"=none)(FN:FnE P w K mg base "_law_numbers" nNu 2 spNu):FnOk P w K mg base CX0 3 f fd ["_law_net_here","_law_ring"] spRi:=by
 refine F.ok (k:=2) scRi (fun vs H Q E h=>?_) (fun cdv A outer s H vs Q E hr h=>?_)
 ·obtain⟨p,n,q,ts,es,v,R,m,rfl,_⟩:=h
  rfl
 ·obtain⟨p,n,qa,ts,es,v,R,m,rfl,N,RA,q⟩:=h
  obtain⟨r,rfl,hR⟩:=RA.at_;have hlen:=RA.len;have hpos:=RA.pos;have h60:=N.n60;have hmn:=ZbC RA.nd RA.lt;refine⟨_,Zb (Z2 (PW.pt (pw_or (Yq (Yb (Zs FN hr (Zc (pv 1) (Zc (Zk Zj (pv 0) Ze (fun _ _=>rfl)) Za))))) (pw_or (Zp ZaX (Zo Zr rfl T.len Yv (Zc (pv 1) Za)) Ze (Zx _)) (pw_or (Zp ZK (Zt ZN (Zo Zr rfl T.len Yv (Zc (pv 1) Za)) Ze) Ze (Zx _)) (pw_or1 (Zp ZaX (Zo Zgu rfl T.len Yv (Zc (Z8 (Zgq hr) rfl hse ZmV (Zc (pv 1) Za)) Za)) (Zo Zr rfl T.len Yv (Zc (pv 1) Za)) (Zx _))))))) ZO Zw)
   (Zb (ZG QD rfl (ZZ rfl T.range (Zc (Zo Zr rfl T.len Yv (Zc (pv 1) Za)) Za)) (Zu (i:=2) scRi.nd rfl (Or.inl rfl))
    (Zb (Zl (i:=3) scRi.nd rfl (Or.inl rfl) (Zk Zj (pv 1) (pv 2) (fun _ _=>rfl)))
    (Zb (Zl (i:=4) scRi.nd rfl (Or.inl rfl) (Zk Zj (pv 1) (Zt ZN (Zt ZS (pv 2) Ze) (Zo Zr rfl T.len Yv (Zc (pv 1) Za))) (fun _ _=>rfl)))
    (Zf (Z2 (PW.pt (pw_and (Zp (Zb9 hr) (Z1 (Zc (pv 3) (Zc (pv 4) Za))) (Zk Zj (pv 0) Ze (fun _ _=>rfl)) rfl) (pw_and1 (Zp (Zb9 hr) (Z1 (Zc (pv 4) (Zc (pv 3) Za))) (Zk Zj (pv 0) Ze (fun _ _=>rfl)) rfl)))) ZO Zw)))))
   (Zf (Zn YV))),_,rfl,_,rfl,p,_,_,_,rfl,rfl,SqT.of N.e1,rfl,r,R,n,rfl,hR,by omega,RA.lt,fun H1 s1=>⟨_,rfl,ZA ?_⟩⟩
  have hR1:=s1 _ _ hR;refine⟨_,rfl,r,_,rfl,.inr (SqT.of hR1),_,_,rfl,rfl,_,rfl,?_⟩;rw[Zy,QX (by omega)];refine ZA ⟨_,rfl,r,_,rfl,.inr (SqT.of hR1),_,_,rfl,rfl,(by show(0:Int)<2;decide),rfl,_,rfl,?_⟩;rw[QX (fun z=>by
   have:=V.int.inj z;rw[Zy]at this;omega)]
  refine ZA ⟨_,rfl,r,_,rfl,by rw[<-ZkB];exact SqT.of hR1,by rw[Qq];omega,fun z S G sG hz=>?_⟩;rw[Zci _ (ZfV RA.nd),Qq]at hz;have hRG:=sG _ _ hR1;refine⟨z,S,_,rfl,hz,by omega,_,rfl,r,_,rfl,.inr (SqT.of hRG),_,_,rfl,rfl,_,rfl,?_⟩;rw[Zy,QX (by omega)];refine ZA ⟨_,rfl,r,_,rfl,.inr (SqT.of hRG),_,rfl,by rw[Zy];omega,by rw[Zy];omega,?_⟩;rw[Zy];have s0G:=Same.trans s1 sG;refine Y1 (lo:=0) (n:=((R.length:Nat):Int).toNat) (fun i σ G'=>Same H G'/\∃v2 v3 v4,σ=[some (.ref p),some (.ref r),v2,v3,v4])
   ⟨s0G,_,_,_,rfl⟩ (fun i σ G' hi xq1=>?_) (fun σ G' xq1=>?_)
  ·obtain⟨sG',v2,v3,v4,e⟩:=xq1
   subst e;rw[Q1]at hi;rw[U5];have hR':=sG' _ _ hR;have N':=N.same sG';obtain⟨x,hx⟩:∃x,R[i]?=some x:=⟨_,Qb hi⟩;obtain⟨j,hj,hjl,hjp⟩:∃j:Nat,((i:Int)+1)%(R.length:Int)=(j:Int)/\j<R.length/\(if j=0 then 2*m else j-1)=i:=by
    by_cases z:i+1=R.length
    ·refine⟨0,?_,by omega,?_⟩
     ·rw[show(i:Int)+1=(R.length:Int) by omega,Int.emod_self];rfl
     ·rw[if_pos rfl];omega
    ·refine⟨i+1,?_,by omega,?_⟩
     ·rw[Int.emod_eq_of_lt (by omega) (by omega)];rfl
     ·rw[if_neg (by omega)];omega
   obtain⟨y,hy⟩:∃y,R[j]?=some y:=⟨_,Qb hjl⟩;have hadj:=RA.tied j (by omega);rw[hjp,Qi,Qi,hx,hy]at hadj;have hmem:=Zjk hadj;refine⟨_,rfl,_,rfl,r,_,_,_,rfl,rfl,SqT.of hR',Zv (nl_get hx),_,rfl,_,rfl,_,_,rfl,rfl,_,rfl,r,_,rfl,.inr (SqT.of hR'),_,_,rfl,rfl,(by rw[Zy];omega),r,_,_,_,rfl,rfl,SqT.of hR',by rw[Zy,hj];exact Zv (nl_get hy),_,rfl,_,rfl,rfl,fun u G2 s2 hu=>?_⟩;have N2:=N'.same s2;obtain⟨tr,htr,htr2,htr3⟩:=N2.tr;refine⟨_,rfl,p,_,_,_,rfl,rfl,SqT.of N2.e1,rfl,u,qa,[(x:Int),(y:Int)],tr,rfl,rfl,SqT.of hu,by rw[<-htr];exact SqT.of N2.e2,fun t ht=>SqT.of (htr3 t ht),_,rfl,?_⟩;by_cases hxy:(x,y)∈es
   ·rw[(Zeg htr2 x y).mpr hxy]
    exact ZA (ZA ⟨Same.trans sG' s2,_,_,_,rfl⟩)
   ·have hyx:=hmem.resolve_left hxy
    have hf:(tr.any fun t=>decide (t.2=[(x:Int),(y:Int)]))=false:=by
     cases z:(tr.any fun t=>decide (t.2=[(x:Int),(y:Int)]))with
     |false=>rfl
     |true=>exact absurd ((Zeg htr2 x y).mp z) hxy
    rw[hf];refine Yi ⟨_,rfl,_,rfl,rfl,fun u2 G3 s3 hu2=>?_⟩;have N3:=N2.same s3;obtain⟨tr',htr',htr2',htr3'⟩:=N3.tr;refine⟨_,rfl,p,_,_,_,rfl,rfl,SqT.of N3.e1,rfl,u2,qa,[(y:Int),(x:Int)],tr',rfl,rfl,SqT.of hu2,by rw[<-htr'];exact SqT.of N3.e2,fun t ht=>SqT.of (htr3' t ht),_,rfl,?_⟩;rw[(Zeg htr2' y x).mpr hyx];exact ZA ⟨Same.trans sG' (Same.trans s2 s3),_,_,_,rfl⟩
  ·obtain⟨sG',v2,v3,v4,e⟩:=xq1
   subst e;exact q G' sG'
abbrev sPr:Stmt:=top 69
abbrev nPr:List Str:=["_law_net_here","_law_pair"]
theorem Znx:Zm nPr nPr (Zg sPr):=⟨rfl,rfl,rfl,by decide+kernel,rfl,by decide+kernel,by decide+kernel⟩
inductive spPr(vs:List V)(H:Hp)(Q:VK)(_z3:XK):Prop
 |mk (p n q ts es v:_) (_:vs=[.ref p,v]) (_:NetZ H p n q ts es) (_:PairAt H es v) (_:∀H',Same H H'->Q (.bl true) H')
theorem ZlY(F:Fun K "_law_is_pair" "_law_is_pair" sPr f fd)(T:Bi mg)(hso:mg "sorted"=none)(FN:FnE P w K mg base "_law_numbers" nNu 2 spNu):FnOk P w K mg base CX0 3 f fd nPr spPr:=by
 refine F.ok (k:=2) Znx (fun vs H Q E h=>?_) (fun cdv A outer s H vs Q E hr h=>?_)
 ·obtain⟨p,n,q,ts,g,v,rfl,_⟩:=h
  rfl
 ·obtain⟨p,n,qa,ts,g,v,rfl,N,PA,q⟩:=h
  obtain⟨u,i,j,rfl,hu,hij,hj,hn⟩:=PA;have hlen:=N.len;refine⟨_,Zb (Z2 (PW.pt (pw_or (Yq (Yb (Zs FN hr (Zc (pv 1) (Zc (Zo Zr rfl T.len Yv (Zc (Zk Zj (pv 0) Ze (fun _ _=>rfl)) Za)) Za))))) (pw_or (Zp Zcw (Zo Zr rfl T.len Yv (Zc (pv 1) Za)) Ze (Zx _)) (pw_or1 (Zp ZlJ (Zk Zj (pv 1) Ze (fun _ _=>rfl)) (Zk Zj (pv 1) Ze (fun _ _=>rfl)) (Zx _)))))) ZO Zw)
   (Zf (Zn (Yr (Zkq hr) (Zo Za2 rfl hso Zbm (Zc (Zk Zj (Zk Zj (pv 0) Ze (fun _ _=>rfl)) (Zk Zj (pv 1) Ze (fun _ _=>rfl)) (fun _ _=>rfl)) Za)) (Zo Za2 rfl hso Zbm (Zc (Zk Zj (Zk Zj (pv 0) Ze (fun _ _=>rfl)) (Zk Zj (pv 1) Ze (fun _ _=>rfl)) (fun _ _=>rfl)) Za)) rfl))),_,rfl,_,rfl,p,_,_,_,rfl,rfl,SqT.of N.e1,rfl,qa,_,rfl,.inr (SqT.of N.e2),u,[i,j],ts.length,rfl,hu,by show 2<=1000;decide,fun x hx=>?_,fun H1 s1=>⟨_,rfl,ZA ?_⟩⟩
  ·simp[Qn,Qt,Q3]at hx
   omega
  have c:=s1 _ _ hu;have N1:=N.same s1;refine⟨_,rfl,u,_,rfl,.inr (SqT.of c),rfl,_,rfl,ZA ⟨_,rfl,u,_,_,_,rfl,rfl,SqT.of c,rfl,_,rfl,u,_,_,_,rfl,rfl,SqT.of c,rfl,_,_,rfl,rfl,_,rfl,Z3 (fun z=>absurd (Qr z) (by omega)) (fun _=>?_)⟩⟩;obtain⟨ti,hti,hta⟩:=N1.at' (k:=i) (by omega);refine⟨_,rfl,p,_,_,_,rfl,rfl,SqT.of N1.e1,rfl,_,rfl,u,_,_,_,rfl,rfl,SqT.of c,rfl,qa,_,_,_,rfl,rfl,SqT.of N1.e2,Zv hti,ti,[((g.getD i (0,0)).1),((g.getD i (0,0)).2:Int)],rfl,SqT.of hta,by show 2<64;decide,fun l1 n1 G1 t1 g1 p1 o1=>?_⟩;have N2:=N1.same t1;obtain⟨tj,htj,htb⟩:=N2.at' (k:=j) hj;refine⟨_,rfl,p,_,_,_,rfl,rfl,SqT.of N2.e1,rfl,_,rfl,u,_,_,_,rfl,rfl,SqT.of (t1 _ _ c),rfl,qa,_,_,_,rfl,rfl,SqT.of N2.e2,Zv htj,tj,[((g.getD j (0,0)).1:Int),((g.getD j (0,0)).2:Int)],rfl,SqT.of htb,by show 2<64;decide,fun l2 n2 G2 t2 g2 p2 o2=>?_⟩;have e3:n1=n2:=by
   rw[(Zdz p1 o1),(Zdz p2 o2)];have:=hn;unfold nky;rw[this]
  subst e3;refine⟨l1,l2,1,rfl,rfl,by decide,.inr ⟨l1,l2,_,_,rfl,rfl,.inr ⟨SqL.of (t2 _ _ g1),SqL.of g2⟩,rfl,fun i' a b e h2=>?_⟩,q G2 (Same.trans s1 (Same.trans t1 t2))⟩;rw[e]at h2;cases h2;rw[Qx]at e;cases q':n1[i']? with
  |none=>rw[q']at e;cases e
  |some x=>rw[q']at e;cases e;exact Sam.atom trivial
end
def Zlc(es:List (Nat×Nat))(x y:Nat):Prop:=(x,y)∈es\/(y,x)∈es
structure DF(es:List (Nat×Nat))(n:Nat)(ks:List Nat)(S:Nat->Int)(P:Nat->Prop)(rt:Nat->Nat)(W:List Nat)(bg:Nat):Prop where
 nd:ks.Nodup
 lt:∀x∈ks,x<n
 wk:∀x∈W,x∈ks/\rt x=bg
 cov:∀x∈ks,P x\/x∈W
 pk:∀x,P x->x∈ks
 pop:∀x,P x->∀y,Zlc es x y->y∈ks/\rt y=rt x
 par:∀x∈ks,(S x=0\/S x=1)/\∀col:Nat->Bool,(∀e∈es,col e.1≠col e.2)->(S x=0↔col x=col (rt x))
structure DH(es:List (Nat×Nat))(n:Nat)(ks:List Nat)(S:Nat->Int)(P:Nat->Prop)(rt:Nat->Nat)(W:List Nat)(bg h i:Nat):Prop where
 nd:ks.Nodup
 lt:∀x∈ks,x<n
 wk:∀x∈W,x∈ks/\rt x=bg
 cov:∀x∈ks,P x\/x∈W\/x=h
 pk:∀x,P x->x∈ks
 pop:∀x,P x->∀y,Zlc es x y->y∈ks/\rt y=rt x
 par:∀x∈ks,(S x=0\/S x=1)/\∀col:Nat->Bool,(∀e∈es,col e.1≠col e.2)->(S x=0↔col x=col (rt x))
 hk:h∈ks
 hr:rt h=bg
 part:∀j,j<i->At (es.getD j (0,0)) h->(es.getD j (0,0)).1+(es.getD j (0,0)).2-h∈ks/\rt ((es.getD j (0,0)).1+(es.getD j (0,0)).2-h)=bg
section
variable{es:List (Nat×Nat)}{n:Nat}{ks:List Nat}{S:Nat->Int}{P:Nat->Prop}{rt:Nat->Nat}{W:List Nat}{bg h i:Nat}
def Yx{α:Type}(f:Nat->α)(k:Nat)(v:α):Nat->α:=fun x=>if x=k then v else f x
theorem DF.nil:DF es n [] S (fun _=>False) rt [] bg:=⟨Q4,(fun x a=>by cases a),(fun x a=>by cases a),(fun x a=>by cases a),(fun x a=>a.elim),(fun x a=>a.elim),(fun x a=>by cases a)⟩
theorem DF.root(D:DF es n ks S P rt [] bg){b:Nat}(hb:¬b∈ks)(hn:b<n):DF es n (ks++[b]) (Yx S b 0) P (Yx rt b b) [b] b:=by
 have f:∀x∈ks,x≠b:=fun x c z=>hb (z▸c);refine⟨?_,fun x c=>?_,fun x c=>?_,fun x c=>?_,fun x c=>Qz _ (D.pk x c),fun x c y g=>?_,fun x c=>?_⟩
 ·rw[Ud]
  exact⟨D.nd,QN.mpr ⟨Qt,Q4⟩,fun x c y g=>by simp_all⟩
 ·rcases Qw.mp c with z|z
  ·exact D.lt x z
  ·simp_all
 ·rw[Qf.mp c]
  exact⟨Qm _ (.head _),by unfold Yx;rw[if_pos rfl]⟩
 ·rcases Qw.mp c with z|z
  ·exact .inl ((D.cov x z).resolve_right fun y=>by cases y)
  ·exact .inr z
 ·obtain⟨d,e⟩:=D.pop x c y g
  refine⟨Qz _ d,?_⟩;unfold Yx;rw[if_neg (f y d),if_neg (f x (D.pk x c))];exact e
 ·unfold Yx
  by_cases z:x=b
  ·simp_all
  ·rw[if_neg z,if_neg z]
   obtain⟨d,e⟩:=D.par x ((Qw.mp c).resolve_right fun y=>z (Qf.mp y));exact⟨d,fun _ h=>(e _ h)⟩
theorem DF.take(D:DF es n ks S P rt (W++[h]) bg):DH es n ks S P rt W bg h 0:=
 ⟨D.nd,D.lt,fun x c=>D.wk x (Qz _ c),fun x c=>(D.cov x c).imp id fun z=>(Qw.mp z).imp id Qf.mp,D.pk,D.pop,D.par,(D.wk h (Qm _ (.head _))).1,(D.wk h (Qm _ (.head _))).2,fun j d=>absurd d (QK _)⟩
theorem ZcV(ok:∀e∈es,e.1≠e.2) {j} (hj:j<es.length) (ha:At (es.getD j (0,0)) h):Zlc es h ((es.getD j (0,0)).1+(es.getD j (0,0)).2-h)/\(es.getD j (0,0)).1+(es.getD j (0,0)).2-h≠h:=by
 have a:=getD_mem hj;have _:=ok _ a;rcases ha with z|z
 ·rw[(show(es.getD j _).1+(es.getD j _).2-h=(es.getD j (0,0)).2 by omega)]
  exact⟨.inl (by rw[z];exact a),by omega⟩
 ·rw[(show(es.getD j _).1+(es.getD j _).2-h=(es.getD j (0,0)).1 by omega)]
  exact⟨.inr (by rw[z];exact a),by omega⟩
theorem DH.skip(D:DH es n ks S P rt W bg h i)(ha:¬At (es.getD i (0,0)) h):DH es n ks S P rt W bg h (i+1):=
 ⟨D.nd,D.lt,D.wk,D.cov,D.pk,D.pop,D.par,D.hk,D.hr,fun j b a=>by
  rcases Ug.mp b with z|z
  ·exact D.part j z a
  ·simp_all⟩
theorem DH.old(D:DH es n ks S P rt W bg h i)(ok:∀e∈es,e.1≠e.2) (hi:i<es.length) (ha:At (es.getD i (0,0)) h) (hy:(es.getD i (0,0)).1+(es.getD i (0,0)).2-h∈ks):DH es n ks S P rt W bg h (i+1):=by
 obtain⟨a,c⟩:=ZcV ok hi ha;refine⟨D.nd,D.lt,D.wk,D.cov,D.pk,D.pop,D.par,D.hk,D.hr,fun j f d=>?_⟩;rcases Ug.mp f with z|z
 ·exact D.part j z d
 ·subst z
  refine⟨hy,?_⟩;rcases D.cov _ hy with z|z|z
  ·have:=(D.pop _ z h a.symm).2
   rw[D.hr]at this;exact this.symm
  ·exact(D.wk _ z).2
  ·exact absurd z c
theorem DH.new(D:DH es n ks S P rt W bg h i)(ok:∀e∈es,e.1≠e.2) (lt:∀e∈es,e.1<n/\e.2<n) (hi:i<es.length) (ha:At (es.getD i (0,0)) h) {y:Nat} (hye:(es.getD i (0,0)).1+(es.getD i (0,0)).2-h=y) (hy:¬y∈ks):
  DH es n (ks++[y]) (Yx S y (1-S h)) P (Yx rt y bg) (W++[y]) bg h (i+1):=by
 obtain⟨c,hne⟩:=ZcV ok hi ha;rw[hye]at c hne;have g:∀x∈ks,x≠y:=fun x b z=>hy (z▸b);refine⟨?_,fun x b=>?_,fun x b=>?_,fun x b=>?_,fun x b=>Qz _ (D.pk x b),fun x b z hz=>?_,fun x b=>?_,Qz _ D.hk,?_,fun j hj hA=>?_⟩
 ·rw[Ud]
  exact⟨D.nd,QN.mpr ⟨Qt,Q4⟩,fun x b z hz=>by rw[Qf.mp hz];exact g x b⟩
 ·rcases Qw.mp b with z|z
  ·exact D.lt x z
  ·rw[Qf.mp z,<-hye]
   have:=lt _ (getD_mem (es:=es) hi);rcases ha with q|q<;>omega
 ·rcases Qw.mp b with z|z
  ·obtain⟨d,h2⟩:=D.wk x z
   refine⟨Qz _ d,?_⟩;unfold Yx;rw[if_neg (g x d)];exact h2
  ·rw[Qf.mp z]
   exact⟨Qm _ (.head _),by unfold Yx;rw[if_pos rfl]⟩
 ·rcases Qw.mp b with z|z
  ·rcases D.cov x z with q|q|q
   ·exact .inl q
   ·exact .inr (.inl (Qz _ q))
   ·exact .inr (.inr q)
  ·exact .inr (.inl (Qm _ z))
 ·obtain⟨d,h2⟩:=D.pop x b z hz
  refine⟨Qz _ d,?_⟩;unfold Yx;rw[if_neg (g z d),if_neg (g x (D.pk x b))];exact h2
 ·obtain⟨g1,g2⟩:=D.par h D.hk
  by_cases z:x=y
  ·subst z
   unfold Yx;rw[if_pos rfl,if_pos rfl];refine⟨by omega,fun a hc=>?_⟩;have g3:=g2 a hc;rw[D.hr]at g3;have hcx:a x= !a h:=by
    rcases c with q|q
    ·have:=hc _ q;revert this;cases a h<;>cases a x<;>simp
    ·have:=hc _ q;revert this;cases a h<;>cases a x<;>simp
   rw[hcx];rcases g1 with q|q
   ·simp_all
   ·rw[q]
    have e1:¬a h=a bg:=fun z=>by have:=g3.mpr z;omega
    constructor
    ·intro _;revert e1;cases a h<;>cases a bg<;>simp
    ·intro _;rfl
  ·unfold Yx
   rw[if_neg z,if_neg z];exact D.par x ((Qw.mp b).resolve_right fun q=>z (Qf.mp q))
 ·unfold Yx
  rw[if_neg (g h D.hk)];exact D.hr
 ·rcases Ug.mp hj with z|z
  ·obtain⟨d,h2⟩:=D.part j z hA
   refine⟨Qz _ d,?_⟩;unfold Yx;rw[if_neg (g _ d)];exact h2
  ·subst z
   rw[hye];exact⟨Qm _ (.head _),by unfold Yx;rw[if_pos rfl]⟩
theorem DH.done(D:DH es n ks S P rt W bg h es.length):DF es n ks S (fun x=>P x\/x=h) rt W bg:=by
 refine⟨D.nd,D.lt,D.wk,fun x c=>?_,fun x c=>?_,fun x c y f=>?_,D.par⟩
 ·rcases D.cov x c with q|q|q
  ·exact .inl (.inl q)
  ·exact .inr q
  ·exact .inl (.inr q)
 ·rcases c with q|q
  ·exact D.pk x q
  ·rw[q];exact D.hk
 ·rcases c with q|q
  ·exact D.pop x q y f
  ·subst q
   obtain⟨j,a,k,e⟩:∃j,j<es.length/\At (es.getD j (0,0)) x/\(es.getD j (0,0)).1+(es.getD j (0,0)).2-x=y:=by
    rcases f with q|q
    ·obtain⟨j,a⟩:=UM q
     refine⟨j,(Qd.mp a).1,?_,?_⟩
     ·rw[Qi,a];exact .inl rfl
     ·simp_all
    ·obtain⟨j,a⟩:=UM q
     refine⟨j,(Qd.mp a).1,?_,?_⟩
     ·rw[Qi,a];exact .inr rfl
     ·simp_all
   obtain⟨i,g⟩:=D.part j a k;rw[e]at i g;exact⟨i,by rw[g,D.hr]⟩
theorem DF.two(D:DF es n ks S P rt [] bg)(all:∀x,x<n->x∈ks) (lt:∀e∈es,e.1<n/\e.2<n):(∀e∈es,S e.1≠S e.2)↔Two es:=by
 constructor
 ·refine fun _=>⟨fun x=>decide (S x=0),fun e b=>?_⟩
  obtain⟨h,d⟩:=lt e b;have j:=(D.par _ (all _ h)).1;have c:=(D.par _ (all _ d)).1
  grind
 ·rintro⟨a,f⟩ e b z
  obtain⟨h,d⟩:=lt e b;have i:=all _ h;have j:=(D.par _ i).2 _ f;have c:=(D.par _ (all _ d)).2 _ f;rw[((D.pop _ ((D.cov _ i).resolve_right fun q=>by cases q) _ (.inl b)).2)]at c;have g:=f e b;rw[<-z]at c;by_cases q:S e.1=0
  ·simp_all
  ·have l:=fun y=>q (j.mpr y)
   have k:=fun y=>q (c.mpr y)
   revert l k g
   cases a _<;>cases a _<;>cases a _<;>simp
end
def kvL(ks:List Nat)(S:Nat->Int):List (Key×V):=ks.map fun k:Nat=>(Sum.inl k,V.int (S k))
theorem Jr{x:Nat}:∀{ks},ZD (kvL ks S) (Sum.inl x)=if x∈ks then some (V.int (S x))else none
 |[]=>by rfl
 |k::ks=>by
  by_cases h:k=x
  ·subst h
   rw[if_pos (.head _)];exact ZW rfl
  ·show ZD ((Sum.inl (k:Int),V.int (S k))::kvL ks S) _=_
   rw[ZX (fun z=>h (by grind)),Jr]
   grind
theorem Zfm{y:Nat}{v}(h:¬y∈ks):putK (kvL ks S) (Sum.inl y) (V.int v)=kvL (ks++[y]) (Yx S y v):=by
 rw[Zb3 _ (by rw[Jr,if_neg h])];unfold kvL;rw[QO];have a:(ks.map fun k:Nat=>((Sum.inl (k:Int)),V.int (S k)))=ks.map fun k:Nat=>((Sum.inl (k:Int):Key),V.int (Yx S y v k)):=by
  refine U7 fun k _=>?_;unfold Yx
  grind
 rw[a];exact UZ (fun z=>(ks.map fun k:Nat=>((Sum.inl (k:Int)),V.int (Yx S y v k)))++[((Sum.inl _),V.int z)]) (show v=Yx S y v y by unfold Yx;rw[if_pos rfl])
theorem Zfn(ks)(S):(kvL ks S).length=ks.length:=by unfold kvL;rw[Qq]
section
variable{P:Program}{w:World}{K:PySem.W.Frag}{mg:Str->Option Value}{base:Heap}
abbrev sT2:Stmt:=top 63
abbrev nT2:List Str:=["_law_net_here","_law_side","_law_begin","_law_waiting","_law_here","_law_tie_here","_law_there"]
abbrev tsS:Scope:=compScope (retE (stOf 63 2))
theorem ZnJ:(["_law_tie_here","_law_side"]:List Str).Nodup:=by decide+kernel
theorem scT2:Zm nT2 ["_law_net_here"] (Zg sT2):=⟨rfl,rfl,rfl,by decide+kernel,rfl,by decide+kernel,by decide+kernel⟩
theorem ZmI:
  Blk (Yg CX0 P w K mg base nT2 "_law_two_sided" (Zg sT2) f cdv A outer s H E).nox tsS [("_law_side",s.heap.objs.size+1)] ["_law_tie_here","_law_side"] [none,some 1]:=by
 refine⟨rfl,rfl,by decide+kernel,by decide+kernel,fun p d=>?_,fun y g e=>?_,⟨rfl,rfl,rfl⟩,trivial⟩
 ·rw[Qf.mp d]
  rfl
 ·have c:y∈[((PySem.Str.ofString _),NameKind.local),(PySem.Str.ofString _,.local),(PySem.Str.ofString _,.free)]:=g
  simp[Qn,Qt,Q3]at c
  grind
inductive spT2(vs:List V)(H:Hp)(Q:VK)(_z3:XK):Prop
 |mk (p n q ts es:_) (_:vs=[.ref p]) (_:NetZ H p n q ts es) (_:∀H' b,Same H H'->(b=true↔Two es)->Q (.bl b) H')
theorem ZlU(F:Fun K "_law_two_sided" "_law_two_sided" sT2 f fd)(T:Bi mg):FnOk P w K mg base CX0 1 f fd ["_law_net_here"] spT2:=by
 refine F.ok scT2 (fun vs H Q E h=>?_) (fun cdv A outer s H vs Q E hr h=>?_)
 ·obtain⟨p,n,q,ts,es,rfl,_⟩:=h
  rfl
 ·obtain⟨p,n,qa,ts,es,rfl,N,q⟩:=h
  have hu:=Zc3 hr;have h200:=N.l200;have h60:=N.n60;have hlen:=N.len;have okne:=fun e he=>(N.ok e he).2.2;have oklt:∀e∈es,e.1<n/\e.2<n:=fun e he=>⟨(N.ok e he).1,(N.ok e he).2.1⟩;refine⟨_,Zb (Zl (i:=1) scT2.nd rfl (Or.inr rfl) Zap)
   (Zb (ZG QD rfl (ZZ rfl T.range (Zc (Zk Zj (pv 0) Ze (fun _ _=>rfl)) Za)) (Zu (i:=2) scT2.nd rfl (Or.inl rfl))
    (Zf (Z2 (J1 (ZaD hu (pv 2) (pv 1)))
     (Zb (Jh hu (pv 1) (pv 2) Ze rfl)
     (Zb (Zl (i:=3) scT2.nd rfl (Or.inl rfl) (ZI (Zc (pv 2) Za)))
     (Zf (J6 QD (Zp ZgZ (Zo Zr rfl T.len Yv (Zc (pv 3) Za)) Ze (Zx _))
      (Zb (Zl (i:=4) scT2.nd rfl (Or.inl rfl) (ZgW QB PySem.F.slot_list_pop PySem.F.type_list_pop Zhg (pv 3)))
      (Zf (ZG QD rfl (Y8 (Zk Zj (pv 0) Ze (fun _ _=>rfl))) (Zu (i:=5) scT2.nd rfl (Or.inl rfl))
       (Zf (Z2 (Zp JJ (pv 4) (pv 5) rfl)
        (Zb (Zl (i:=6) scT2.nd rfl (Or.inl rfl) (Zt Jk (Zt ZS (Zk Zj (pv 5) Ze (fun _ _=>rfl)) (Zk Zj (pv 5) Ze (fun _ _=>rfl))) (pv 4)))
        (Zf (Z2 (J1 (ZaD hu (pv 6) (pv 1)))
         (Zb (Jh hu (pv 1) (pv 6) (Zt Jk Ze (Zaq hu (pv 1) (pv 4) (fun _ _=>rfl))) rfl)
         (Zf (ZF (Y6 QB QG QH ZC (pv 3) (Zc (pv 6) Za))))) Zw))) Zw))))))))) Zw)))
   (Zf (Zn (Yr (Zi9 hr) (Zb7 ZmI rfl (Zk Zj (pv 0) Ze (fun _ _=>rfl)) (YI (Z9 0) (JX _)) (fun C fp s H=>Zu (i:=0) ZnJ rfl (Or.inl rfl))
    (fun C fp s H=>Y4 (Zp ZK (Zaq hu (pv 1) (Zk (Zax (K:=K) rfl) (pv 0) Ze (fun _ _=>rfl)) (fun _ _=>rfl)) (Zaq hu (pv 1) (Zk (Zax (K:=K) rfl) (pv 0) Ze (fun _ _=>rfl)) (fun _ _=>rfl)) (Zx _))) (fun C fp s H=>pv 0)) (Zao Za) rfl)))),fun d hd=>?_⟩
  have s0:Same H (upd H d (.dK [])):=Zh hd;refine⟨_,rfl,p,_,_,_,rfl,rfl,SqT.of (s0 _ _ N.e1),rfl,(n:Int),rfl,by omega,by omega,Y1 (lo:=0) (n:=((n:Nat):Int).toNat) (fun b σ G=>E10 fun(ks:List Nat)(S:Nat->Int)(Pp:Nat->Prop)(rt:Nat->Nat)(bg:Nat)(v2 v3 v4 v5 v6:Option V)=>σ=[some (.ref p),some (.ref d),v2,v3,v4,v5,v6]/\Same H G/\G d=some (.dK (kvL ks S))/\DF es n ks S Pp rt [] bg/\∀x,x<b->x∈ks)
   ⟨[],fun _=>0,fun _=>False,fun _=>0,0,_,_,_,_,_,rfl,s0,Zd,DF.nil,fun x hx=>absurd hx (QK _)⟩ (fun b σ G hb xq1=>?_) (fun σ G xq1=>?_)⟩
  ·obtain⟨ks,S,Pp,rt,bg,v2,v3,v4,v5,v6,e,sG,hG,D,hall⟩:=xq1
   subst e;rw[Q1]at hb;rw[U5];have hg0:=DGet.k (k:=Sum.inl (b:Int)) hG;rw[Jr]at hg0;refine⟨_,rfl,_,rfl,d,_,rfl,hg0,_,rfl,?_⟩;by_cases hbk:b∈ks
   ·rw[if_pos hbk]
    refine ZA ⟨ks,S,Pp,rt,bg,_,_,_,_,_,rfl,sG,hG,D,fun x hx=>?_⟩;rcases Ug.mp hx with z|z
    ·exact hall x z
    ·rw[z];exact hbk
   ·rw[if_neg hbk]
    have hkl:=ZbC D.nd D.lt;have hsz:(kvL ks S).length<sizeLine:=by rw[Zfn];exact Qs (show ks.length<1000 by omega) (Yh (by decide))
    refine Yi ⟨_,rfl,_,rfl,d,_,rfl,DPut.k (k:=Sum.inl (b:Int)) hG hsz,?_⟩;rw[Zfm hbk];have s1:Same H (upd G d (.dK (kvL (ks++[b]) (Yx S b 0)))):=sG.wr hd;refine⟨_,rfl,(by show 1<=sizeLine;decide),fun wa hwa=>?_⟩;have hdw:d≠wa:=fun z=>by rw[<-z,Zd]at hwa;cases hwa
    have hw0:H wa=none:=s1.none hwa;refine⟨fun m σ G'=>E8 fun(ks:List Nat)(S:Nat->Int)(Pp:Nat->Prop)(rt:Nat->Nat)(W:List Nat)(v4 v5 v6:Option V)=>m=2*(n-ks.length)+W.length/\σ=[some (.ref p),some (.ref d),some (.int (b:Int)),some (.ref wa),v4,v5,v6]/\Same H G'/\G' d=some (.dK (kvL ks S))/\G' wa=some (.lst (nl W))/\DF es n ks S Pp rt W b/\(∀x,x<b+1->x∈ks)/\W.length<=ks.length,
     ⟨_,ks++[b],Yx S b 0,Pp,Yx rt b b,[b],_,_,_,rfl,rfl,s1.trans (Zh hwa),by rw[Zi hdw,Zd],Zd,D.root hbk hb,fun x hx=>?_,by rw[Qk];simp⟩,?_⟩
    ·rcases Ug.mp hx with z|z
     ·exact Qz _ (hall x z)
     ·rw[z];exact Qm _ (.head _)
    rintro m σ G' ⟨ks,S,Pp,rt,W,v4,v5,v6,rfl,rfl,sG',hG',hW,D,hall,hWl⟩;refine⟨_,rfl,wa,_,rfl,.inl (SqL.of hW),_,_,rfl,rfl,_,rfl,?_⟩;rw[Zy];refine Z3 (fun hz=>?_) (fun hz=>?_)
    ·obtain⟨w',x,rfl⟩:∃w' x,W=w'++[x]:=by
      rcases List.eq_nil_or_concat W with e|⟨w',x,e⟩
      ·subst e;cases hz
      ·exact⟨w',x,by rw[e,List.concat_eq_append]⟩
     have hwl:nl (w'++[x])=nl w'++[.int (x:Int)]:=(nl_app w' x).symm;have hdrop:(nl (w'++[x])).dropLast=nl w':=by rw[hwl,List.dropLast_concat]
     refine⟨fun σ' G''=>∃m',m'<2*(n-ks.length)+(w'++[x]).length/\E8 fun(ks:List Nat)(S:Nat->Int)(Pp:Nat->Prop)(rt:Nat->Nat)(W:List Nat)(v4 v5 v6:Option V)=>m'=2*(n-ks.length)+W.length/\σ'=[some (.ref p),some (.ref d),some (.int (b:Int)),some (.ref wa),v4,v5,v6]/\Same H G''/\G'' d=some (.dK (kvL ks S))/\G'' wa=some (.lst (nl W))/\DF es n ks S Pp rt W b/\(∀x,x<b+1->x∈ks)/\W.length<=ks.length,fun _ _ h=>h,_,rfl,.inl ⟨rfl,_,SqL.of hW⟩,wa,_,.int (x:Int),rfl,rfl,hW,(by rw[hwl,Qk,QF,Nat.add_sub_cancel,Q0 (Qe _),Vh];rfl),?_⟩;rw[hdrop];have s2:Same H (upd G' wa (.lst (nl w'))):=sG'.wr hw0;have hxl:=D.lt x (D.wk x (Qm _ (.head _))).1;have hks0:=ZbC D.nd D.lt;refine⟨_,rfl,p,_,_,_,rfl,rfl,SqT.of (s2 _ _ N.e1),rfl,qa,rfl,⟨_,SqT.of (s2 _ _ N.e2)⟩,Y5 (K:=K) (a:=qa) (xs:=ts) (fun i σ G''=>E6 fun(ks':List Nat)(S':Nat->Int)(rt':Nat->Nat)(W':List Nat)(v5 v6:Option V)=>σ=[some (.ref p),some (.ref d),some (.int (b:Int)),some (.ref wa),some (.int (x:Int)),v5,v6]/\Same H G''/\G'' d=some (.dK (kvL ks' S'))/\G'' wa=some (.lst (nl W'))/\DH es n ks' S' Pp rt' W' b x i/\(∀z,z<b+1->z∈ks')/\W'.length+ks.length=w'.length+ks'.length/\ks.length<=ks'.length)
      ⟨ks,S,rt,w',_,_,rfl,s2,by rw[Zi hdw];exact hG',Zd,D.take,hall,rfl,Qe _⟩ (fun i σ G'' _⟨_,_,_,_,_,_,_,s3,_⟩=>SqT.of (s3 _ _ N.e2)) (fun i y σ G'' hy xq1=>?_) (fun σ G'' xq1=>?_)⟩
     ·obtain⟨ks',S',rt',W',v5,v6,e,s3,hd3,hw3,DD,hall',hc1,hc2⟩:=xq1
      subst e;have hi:i<es.length:=by rw[<-hlen];exact(Qd.mp hy).1
      obtain⟨a,rfl,ha⟩:=N.tie i y hy;have ha3:=s3 _ _ ha;refine⟨_,rfl,_,rfl,a,_,rfl,.inr (SqT.of ha3),rfl,rfl,_,rfl,Z3 (fun hh=>?_) (fun hh=>?_)⟩
      ·have hA:=(ZaY x (es.getD i (0,0))).mp hh
       obtain⟨hadj,hne⟩:=ZcV okne hi hA;obtain⟨y,hye⟩:∃y,(es.getD i (0,0)).1+(es.getD i (0,0)).2-x=y:=⟨_,rfl⟩;have hle:x<=(es.getD i (0,0)).1+(es.getD i (0,0)).2:=by rcases hA with z|z<;>omega
       refine⟨_,rfl,a,_,_,_,rfl,rfl,SqT.of ha3,rfl,_,rfl,a,_,_,_,rfl,rfl,SqT.of ha3,rfl,_,_,rfl,rfl,_,rfl,_,_,rfl,rfl,?_⟩;dsimp only[ZaZ];rw[show((es.getD i (0,0)).1:Int)+((es.getD i (0,0)).2:Int)-(x:Int)=(y:Int) by omega];have hg1:=DGet.k (k:=Sum.inl (y:Int)) hd3;rw[Jr]at hg1;refine⟨_,rfl,_,rfl,d,_,rfl,hg1,_,rfl,?_⟩;by_cases hyk:y∈ks'
       ·rw[if_pos hyk]
        exact ZA ⟨ks',S',rt',W',_,_,rfl,s3,hd3,hw3,DD.old okne hi hA (by rw[hye];exact hyk),hall',hc1,hc2⟩
       ·rw[if_neg hyk]
        have hkl:=ZbC DD.nd DD.lt;have hsz:(kvL ks' S').length<sizeLine:=by rw[Zfn];exact Qs (show ks'.length<1000 by omega) (Yh (by decide))
        have hg2:=DGet.k (k:=Sum.inl (x:Int)) hd3;rw[Jr,if_pos DD.hk]at hg2;refine Yi ⟨_,rfl,_,rfl,d,_,rfl,hg2,_,_,rfl,rfl,_,rfl,_,rfl,d,_,rfl,DPut.k (k:=Sum.inl (y:Int)) hd3 hsz,?_⟩;rw[Zfm hyk];have hw4:upd G'' d (.dK (kvL (ks'++[y]) (Yx S' y (1-S' x)))) wa=some (.lst (nl W')):=by rw[Zi (Ne.symm hdw)];exact hw3
        have hWs:(nl W').length<sizeLine:=by rw[Zy];exact Qs (show W'.length<1000 by rw[Qk]at hWl;simp[QL,Ur]at hWl;omega) (Yh (by decide))
        refine⟨_,rfl,.inl ⟨rfl,_,SqL.of hw4⟩,_,rfl,wa,_,_,rfl,rfl,hw4,hWs,ks'++[y],Yx S' y (1-S' x),Yx rt' y b,W'++[y],_,_,rfl,(s3.wr hd).wr hw0,by rw[Zi hdw,Zd],by rw[Zd,nl_app],DD.new okne oklt hi hA hye hyk,fun z hz=>Qz _ (hall' z hz),?_,?_⟩
        ·rw[Qk,Qk];simp[QL,Ur];omega
        ·rw[Qk];omega
      ·exact⟨ks',S',rt',W',_,_,rfl,s3,hd3,hw3,DD.skip fun z=>hh ((ZaY x (es.getD i (0,0))).mpr z),hall',hc1,hc2⟩
     ·obtain⟨ks',S',rt',W',v5,v6,e,s3,hd3,hw3,DD,hall',hc1,hc2⟩:=xq1
      subst e;rw[hlen]at DD;have hkl:=ZbC DD.nd DD.lt;refine⟨_,?_,ks',S',fun z=>Pp z\/z=x,rt',W',_,_,_,rfl,rfl,s3,hd3,hw3,DD.done,hall',?_⟩
      ·rw[Qk];simp[QL,Ur];omega
      ·rw[Qk]at hWl;simp only[QL,Ur]at hWl;omega
    ·have hW0:W=[]:=by
      cases W with
      |nil=>rfl
      |cons a l=>exact absurd (Qu (by simp only[QL];omega)) hz
     subst hW0;exact⟨ks,S,Pp,rt,b,_,_,_,_,_,rfl,sG',hG',D,hall⟩
  ·obtain⟨ks,S,Pp,rt,bg,v2,v3,v4,v5,v6,e,sG,hG,D,hall⟩:=xq1
   subst e;rw[Q1]at hall;have two:=D.two hall oklt;have NG:=N.same sG;refine⟨_,rfl,p,_,_,_,rfl,rfl,SqT.of NG.e1,rfl,qa,_,rfl,SqT.of NG.e2,by omega,fun i ys σ G'=>Same G G'/\ys.length<=i/\(ys.length=0↔∀j,j<i->S (es.getD j (0,0)).1≠S (es.getD j (0,0)).2)/\∃v0,σ=[v0,some (.ref d)],⟨Same.refl G,Qe _,⟨fun _ j hj=>absurd hj (QK _),fun _=>rfl⟩,none,rfl⟩,fun i ys σ G' hi⟨sG',e,_⟩=>⟨SqT.of (sG' _ _ NG.e2),e⟩,fun i x ys σ G' hx xq1=>?_,fun ys σ G' xq1 l G2 s2 hl=>?_⟩
   ·obtain⟨sG',e,hy,v0,eσ⟩:=xq1
    subst eσ;have hi:i<es.length:=by rw[<-hlen];exact(Qd.mp hx).1
    obtain⟨a,rfl,ha⟩:=NG.tie i x hx;have ha':=sG' _ _ ha;have hG':=sG' _ _ hG;obtain⟨l1,l2⟩:=oklt _ (getD_mem (es:=es) hi);have hg1:=DGet.k (k:=Sum.inl ((es.getD i (0,0)).1:Int)) hG';rw[Jr,if_pos (hall _ l1)]at hg1;have hg2:=DGet.k (k:=Sum.inl ((es.getD i (0,0)).2:Int)) hG';rw[Jr,if_pos (hall _ l2)]at hg2;refine⟨_,rfl,_,rfl,a,_,_,_,rfl,rfl,SqT.of ha',rfl,d,_,rfl,hg1,_,rfl,_,rfl,a,_,_,_,rfl,rfl,SqT.of ha',rfl,d,_,rfl,hg2,rfl,_,rfl,Z3 (fun hh=>?_) (fun hh=>?_)⟩
    ·have hS:=V.int.inj (Qr hh)
     refine⟨_,rfl,sG',by rw[Qk];simp only[QL,Ur];omega,⟨fun z=>?_,fun z=>absurd hS (z i (Q7 _))⟩,_,rfl⟩;rw[Qk]at z;simp only[QL,Ur]at z;omega
    ·refine⟨sG',by omega,⟨fun z j hj=>?_,fun z=>hy.mpr fun j hj=>z j (by omega)⟩,_,rfl⟩
     rcases Ug.mp hj with y|y
     ·exact hy.mp z j y
     ·subst y
      exact fun c=>hh (Qu (by rw[c]))
   ·obtain⟨sG',e,hy,_⟩:=xq1
    rw[hlen]at hy;refine⟨rfl,fun l0 G3 s3 hl0=>⟨l,l0,_,rfl,rfl,SqL.of (s3 _ _ hl),SqL.of hl0,q G3 _ (Same.trans sG (Same.trans sG' (Same.trans s2 s3))) ?_⟩⟩;rw[Ve,hy,<-two];constructor
    ·intro z e he
     obtain⟨j,hj⟩:=UM he;have:=z j (Qd.mp hj).1;rw[Qi,hj]at this;exact this
    ·exact fun z j hj=>z _ (getD_mem (es:=es) hj)
end
end My
namespace L2
open PySem PySem.Spec PyProof.Rows
section
variable{P:Program}{w:World}{K:PySem.W.Frag}{mg:Str->Option Value}{base:Heap}{k:Nat}{f:Addr}{fd:FuncData}{ps:List Str}{sp sp':Sp}
theorem FunD.okX{x qual}{st}{N:List _}(F:FunD K x qual st f fd)(S:Zm N ps (Zg st))(len:∀vs H Q E,sp vs H Q E->vs.length=ps.length)
  (hbody:∀(cdv:Value)(A:Around)(outer:List _)(s:Shared)(H:Hp)(vs:List V)(Q:VK)(E:XK),Room k (A.deeper (envOfC qual (Zg st) s.heap.objs.size f cdv))->sp vs H Q E->
   ∃t,PSs (Yg (RX.CXe P w) P w K mg base N qual (Zg st) f cdv A outer s H E) (ZE st) t/\t {nx:=fun _ H'=>Q .non H',rt:=Q} (start N vs) H):FnOk P w K mg base (RX.CXe P w) (k+1) f fd ps sp:=by
 obtain⟨_,_,_,kV,_,_,_,cdv,_,_,rfl,c,a⟩:=F.ex;exact ZdN c a S len fun A outer s H vs Q E d b=>hbody _ A _ s H vs Q E d b
end
end L2
namespace My
open PySem L2
theorem ZeN{e dx}{o1 o2}(hdx:G dx=none)(he:upd G dx o1 e=none)(s:Same (upd (upd G dx o1) e o2) G1):Same G G1:=Same.trans (Zh hdx) (Same.trans (Zh he) s)
structure Kz(K:PySem.W.Frag)(cR cP cF te C:Addr)(b:Bool):Prop where
 kF:PySem.W.kitOne K (.ref C) (.ref cF)=some false
 kV:PySem.W.kitOne K (.ref C) (.type "ValueError")=some true
 kR:PySem.W.kitOne K (.ref C) (.ref cR)=some b
 kP:PySem.W.kitOne K (.ref C) (.ref cP)=some (!b)
 ke:PySem.W.kitCls K (.ref C) (.ref te)=some true
 gt:RX.ZeK K C
structure Gz(mg:Str->Option Value)(cR cP cF te c2 cPl:Addr):Prop where
 gR:mg "NotTwoSided"=some (.ref cR)
 gP:mg "NotPlain"=some (.ref cP)
 gF:mg "TooFew"=some (.ref cF)
 gE:mg "TintError"=some (.ref te)
 g2:mg "TwoSided"=some (.ref c2)
 gl:mg "Plain"=some (.ref cPl)
 hv:mg "ValueError"=none
theorem bVE:bootBuiltins "ValueError"=some (.type "ValueError"):=by decide+kernel
section
variable{P:Program}{w:World}{K:PySem.W.Frag}{mg:Str->Option Value}{base:Heap}{C cM cR cP cF te c2 cPl:Addr}
inductive ZgB(at':Nat)(C cM cR cP:Addr)(vs:List V)(H:Hp)(_z2:VK)(E:XK):Prop
 |mk (p:Addr) (v:V) (n:Nat) (q:Addr) (ts:List V) (es:List (Nat×Nat)) (_:vs=[.ref p,v]) (_:NetZ H p n q ts es) (_:WyV C cM H v) (_:AkP at' cR cP H es n (fun _=>False) E)
theorem Zhd{f fA}{fd fdA}(F:FunD K "tinted" "tinted" sTd f fd)(FW:FnE P w K mg base "way_or_manifold" ["way"] 8 (ZjJ C cM))(hC:Cls K C)(hA:Zgz K C "asked" fA)(FA:FnOk P w K mg base (RX.CXe P w) 3 fA fdA ["self","net"] (ZgE at' cR cP))(bA:L2.Binds K fdA ["self","net"] []):
  FnOk P w K mg base (RX.CXe P w) 9 f fd ["net","way"] (ZgB at' C cM cR cP):=by
 refine F.okX scTd (fun m H Q E h=>?_) (fun _ A _ s H m Q E c h=>?_)
 ·obtain⟨p,v,n,q,e,d,rfl,_⟩:=h
  rfl
 ·obtain⟨p,v,n,j,e,d,rfl,N,g,q⟩:=h
  refine⟨_,Zb (PS.nox (Zl (i:=2) scTd.nd rfl (Or.inl rfl) (Zs FW c (Zc (pv 1) Za))))
   (Zb (ZF (Zfb (pv 2) hC hA FA (show Room 3 _ from c.mono (by simp)) bA .nil (RX.ZlI fun _ _ _ z=>z) (Zc (pv 0) Za))) ZO),?_⟩
  exact⟨_,rfl,v,rfl,g,fun _ b k a l=>⟨_,rfl,b,k,_,rfl,l,rfl,_,rfl,b,p,n,j,e,d,rfl,N.same a,q.same a⟩⟩
abbrev sRf:Stmt:=top 70
abbrev nRf:List Str:=["_law_net_here","_law_by_way","_law_kept","error"]
inductive Zlu(c2 cPl:Addr)(vs:List V)(H:Hp)(Q:VK)(_z3:XK):Prop
 |mk (p s dx n q ts es:_) (_:vs=[.ref p,.ref s]) (_:NetZ H p n q ts es) (_:(H s=some (.ins c2 dx [])/\¬Two es\/H s=some (.ins cPl dx [])/\ZdX es)) (_:∀H',Same H H'->Q (.bl true) H')
theorem scRf:Zm nRf ["_law_net_here","_law_by_way"] (Zg sRf):=⟨rfl,rfl,rfl,by decide+kernel,rfl,by decide+kernel,by decide+kernel⟩
def Zjq(c2 cPl cM cR cP:Addr):Sp:=fun vs H Q E=>ZgB 1 c2 cM cR cP vs H Q E\/ZgB 2 cPl cM cR cP vs H Q E
theorem ZlX{fd fdT}(F:Fun K "_law_refused" "_law_refused" sRf f fd)(T:Bi mg)(G:Gz mg cR cP cF te c2 cPl)(hbe:PySem.W.mroIn K te (.type "BaseException")=some true)(W1:Kz K cR cP cF te cR true)(W2:Kz K cR cP cF te cP false)(nR:PySem.W.findIn K (.ref cR) "ring"=some none)(nP:PySem.W.findIn K (.ref cP) "pair"=some none)
  (o2:OwnC K c2)(oP:OwnC K cPl)(k2:PySem.W.kitOne K (.ref c2) (.ref c2)=some true)(kP:PySem.W.kitOne K (.ref cPl) (.ref cPl)=some true)
  (FT:FnOk P w K mg base (RX.CXe P w) 9 fT fdT ["net","way"] (Zjq c2 cPl cM cR cP))(gT:mg "tinted"=some (.ref fT))(kT:PySem.W.keepIn K (.ref fT)=true)(bT:L2.Binds K fdT ["net","way"] [])
  (FR:FnE P w K mg base "_law_is_ring" ["_law_net_here","_law_ring"] 9 spRi)(FP:FnE P w K mg base "_law_is_pair" ["_law_net_here","_law_pair"] 9 spPr):FnOk P w K mg base CX0 10 f fd ["_law_net_here","_law_by_way"] (Zlu c2 cPl):=by
 refine F.ok (k:=9) scRf (fun vs H Q E h=>?_) (fun cdv A outer s H vs Q E hr h=>?_)
 ·obtain⟨p,s,d,n,q,ts,es,rfl,_⟩:=h
  rfl
 ·obtain⟨p,r,dw,n,qa,ts,es,rfl,N,hs,q⟩:=h
  obtain⟨tt,htt,t1,t2⟩:∃t,PSs (Yg CX0 P w K mg base nRf "_law_refused" (Zg sRf) f cdv A outer s H E).nox ((ZE sRf).drop 2) t/\
    (∀(b:Hp)(e d:Addr)(v:V)(R:List Nat)(m:Nat)(u3:Option V),Same H b->H r=some (.ins c2 dw [])->b e=some (RX.XO cR (some d) e)->b d=some (.xd [("ring",v)])->RingAt b es n v R m->t {nx:=fun _ H'=>Q .non H',rt:=Q} [some (.ref p),some (.ref r),some (.ref e),u3] b)/\
    (∀(b:Hp)(e d:Addr)(v:V)(u3:Option V),Same H b->H r=some (.ins cPl dw [])->b e=some (RX.XO cP (some d) e)->b d=some (.xd [("pair",v)])->PairAt b es v->t {nx:=fun _ H'=>Q .non H',rt:=Q} [some (.ref p),some (.ref r),some (.ref e),u3] b):=by
   refine⟨_,Zb (Z2 (PW.pt (pw_or (Zp ZbA (pv 2) ZH (Zx _)) (pw_or (Yb (Zo RX.Yu rfl T.isi Zaf (Zc (pv 2) (Zc (Jj (v:= .ref cF) rfl G.gF rfl) Za)))) (pw_or1 (Yq (Yb (Zo RX.Yu rfl T.isi Zaf (Zc (pv 2) (Zc (YC (v:= .ty "ValueError") rfl G.hv bVE rfl) Za))))))))) (Zf (Zn YV)) Zw)
    (Zb (Z2 (Yb (Zo RX.Yu rfl T.isi Zaf (Zc (pv 2) (Zc (Jj (v:= .ref cR) rfl G.gR rfl) Za))))
     (Zf (Zn (Ys (Zo Za4 rfl T.isi Zaf (Zc (pv 1) (Zc (Jj (v:= .ref c2) rfl G.g2 rfl) Za))) (Ys (Zeu (Zo RX.Yu rfl T.isi Zaf (Zc (pv 2) (Zc (Jj (v:= .ref cP) rfl G.gP rfl) Za)))) (YO (Zs FR hr (Zc (pv 0) (Zc (RX.Zfc (pv 2) rfl) Za)))))))) Zw)
    (Zf (Zn (Ys (Zo RX.Yu rfl T.isi Zaf (Zc (pv 2) (Zc (Jj (v:= .ref cP) rfl G.gP rfl) Za))) (Ys (Zo Za4 rfl T.isi Zaf (Zc (pv 1) (Zc (Jj (v:= .ref cPl) rfl G.gl rfl) Za))) (YO (Zs FP hr (Zc (pv 0) (Zc (RX.Zfc (pv 2) rfl) Za))))))))),?_,?_⟩
   ·intro b e d v R m u3 g hw a hd RA
    have l:∀d',some d=some d'->∃u,b d'=some u:=fun d' z=>by cases z;exact⟨_,hd⟩
    refine⟨_,rfl,rfl,_,rfl,ZA ⟨_,rfl,e,cR,_,_,_,_,rfl,a,l,W1.gt,rfl,W1.kF,_,rfl,ZA ⟨_,rfl,e,cR,_,_,_,_,rfl,a,l,W1.gt,rfl,W1.kV,_,rfl,ZA ⟨_,rfl,e,cR,_,_,_,_,rfl,a,l,W1.gt,rfl,W1.kR,_,rfl,Yi ⟨_,rfl,_,_,_,_,rfl,o2.ty (g _ _ hw),k2,_,rfl,Yi ⟨_,rfl,e,cR,_,_,_,_,rfl,a,l,W1.gt,rfl,W1.kP,_,rfl,_,rfl,Yi ⟨_,rfl,_,rfl,e,cR,d,_,v,rfl,a,hd,W1.gt,nR,rfl,(fun n z=>by obtain⟨r',e1,_⟩:=RA.at_;rw[e1]at z;cases z),p,n,qa,ts,es,v,R,m,rfl,N.same g,RA,fun H' s'=>q H' (Same.trans g s')⟩⟩⟩⟩⟩⟩⟩
   ·intro b e d v u3 g hw a hd o
    have l:∀d',some d=some d'->∃u,b d'=some u:=fun d' z=>by cases z;exact⟨_,hd⟩
    refine⟨_,rfl,rfl,_,rfl,ZA ⟨_,rfl,e,cP,_,_,_,_,rfl,a,l,W2.gt,rfl,W2.kF,_,rfl,ZA ⟨_,rfl,e,cP,_,_,_,_,rfl,a,l,W2.gt,rfl,W2.kV,_,rfl,ZA ⟨_,rfl,e,cP,_,_,_,_,rfl,a,l,W2.gt,rfl,W2.kR,_,rfl,ZA ⟨_,rfl,e,cP,_,_,_,_,rfl,a,l,W2.gt,rfl,W2.kP,_,rfl,Yi ⟨_,rfl,_,_,_,_,rfl,oP.ty (g _ _ hw),kP,_,rfl,Yi ⟨_,rfl,_,rfl,e,cP,d,_,v,rfl,a,hd,W2.gt,nP,rfl,(fun n z=>by obtain⟨u,i,j,e1,_⟩:=o;rw[e1]at z;cases z),p,n,qa,ts,es,v,rfl,N.same g,o,fun H' s'=>q H' (Same.trans g s')⟩⟩⟩⟩⟩⟩⟩
  refine⟨_,Zb (Zl (i:=2) scRf.nd rfl (Or.inl rfl) ZH)
   (Zb (RX.Zke rfl rfl (fun pn E Ex ht=>Zf (ZF (RX.ZgU FT hr rfl gT kT bT .nil ht (Zc (pv 0) (Zc (pv 1) Za)))))
    (RX.ZlG (i:=3) rfl G.gE hbe scRf.nd rfl rfl (fun e=>Zf (Zl (i:=2) scRf.nd rfl (Or.inl rfl) (pv 3))) RX.Zkj))
   htt),?_⟩
  rcases hs with⟨hs,hT⟩|⟨hs,hT⟩
  ·refine⟨_,rfl,_,rfl,.inl ⟨p,.ref r,n,qa,ts,es,rfl,N,.inl ⟨r,dw,rfl,hs⟩,fun _ _ b c v rg k g x RA=>⟨cR,true,rfl,W1.ke,?_⟩,fun z=>absurd z (by decide),fun z=>absurd (z rfl) hT⟩⟩
   rw[if_pos rfl];intro e a;have sx:=ZeN (o2:=RX.XO cR (some c) e) x a (Same.refl _);exact⟨_,rfl,t1 _ e c v rg k _ (Same.trans g sx) hs Zd (by rw[Zi (show c≠e from fun z=>by rw[<-z,Zd]at a;cases a),Zd]) (RA.same sx)⟩
  ·refine⟨_,rfl,_,rfl,.inr ⟨p,.ref r,n,qa,ts,es,rfl,N,.inl ⟨r,dw,rfl,hs⟩,fun z=>absurd z (by decide),fun _ _ b c v g x o=>⟨cP,true,rfl,W2.ke,?_⟩,fun _ z=>absurd hT (z rfl)⟩⟩
   rw[if_pos rfl];intro e a;have sx:=ZeN (o2:=RX.XO cP (some c) e) x a (Same.refl _);exact⟨_,rfl,t2 _ e c v _ (Same.trans g sx) hs Zd (by rw[Zi (show c≠e from fun z=>by rw[<-z,Zd]at a;cases a),Zd]) (o.same sx)⟩
end
section
variable{P:Program}{w:World}{K:PySem.W.Frag}{mg:Str->Option Value}{base:Heap}
abbrev sFc:Stmt:=top 71
abbrev nFc:List Str:=["_law_net_here","_law_tints","_law_need","_law_taken","_law_k","_law_point"]
inductive spFc(vs:List V)(H:Hp)(Q:VK)(_z3:XK):Prop
 |mk (p r:Addr) (n:Nat) (q:Addr) (ts:List V) (es:List (Nat×Nat)) (l:List Nat) (m:Nat) (_:vs=[.ref p,.ref r,.int m]) (_:NetZ H p n q ts es) (_:H r=some (.tup (nl l))) (_:l.length=es.length) (_:(∀x∈l,x<m)) (_:CleanTo es (l.map some) es.length) (_:∀H',Same H H'->Q (.bl true) H')
theorem scFc:Zm nFc ["_law_net_here","_law_tints","_law_need"] (Zg sFc):=⟨rfl,rfl,rfl,by decide+kernel,rfl,by decide+kernel,by decide+kernel⟩
theorem Zmn(F:Fun K "_law_full_and_clean" "_law_full_and_clean" sFc f fd)(T:Bi mg)(FN:FnE P w K mg base "_law_numbers" ["_law_found","_law_most_here"] 2 spNu):FnOk P w K mg base CX0 3 f fd ["_law_net_here","_law_tints","_law_need"] spFc:=by
 refine F.ok scFc (fun vs H Q E h=>?_) (fun cdv A outer s H vs Q E hr h=>?_)
 ·obtain⟨p,r,n,q,ts,es,l,m,rfl,_⟩:=h
  rfl
 ·obtain⟨p,r,n,qa,ts,es,l,m,rfl,N,hR,hl,hm,hC,q⟩:=h
  have hu:=Zc3 hr;refine⟨_,Zb (Z2 (PW.pt (pw_or (Yq (Yb (Zs FN hr (Zc (pv 1) (Zc (pv 2) Za))))) (pw_or1 (Zp Zcw (Zo Zr rfl T.len Yv (Zc (pv 1) Za)) (Zo Zr rfl T.len Yv (Zc (Zk Zj (pv 0) Ze (fun _ _=>rfl)) Za)) (Zx _))))) (Zf (Zn YV)) Zw)
   (Zb (Zl (i:=3) scFc.nd rfl (Or.inl rfl) Zb8)
   (Zb (ZG QD rfl (ZZ rfl T.range (Zc (Zo Zr rfl T.len Yv (Zc (pv 1) Za)) Za)) (Zu (i:=4) scFc.nd rfl (Or.inl rfl))
    (Zf (ZG QD rfl (Y8 (Zk Zj (Zk Zj (pv 0) Ze (fun _ _=>rfl)) (pv 4) (fun _ _=>rfl))) (Zu (i:=5) scFc.nd rfl (Or.inl rfl))
     (Zb (Z2 (J1 (Zey hu (Z1 (Zc (pv 5) (Zc (Zk Zj (pv 1) (pv 4) (fun _ _=>rfl)) Za))) (pv 3))) (Zf (Zn YV)) Zw)
     (Zf (Jh hu (pv 3) (Z1 (Zc (pv 5) (Zc (Zk Zj (pv 1) (pv 4) (fun _ _=>rfl)) Za))) YV rfl))))))
   (Zf (Zn YV)))),?_⟩
  have h200:=N.l200;have hlen:=N.len;refine⟨_,rfl,_,rfl,r,l,m,rfl,hR,by omega,hm,fun H0 s0=>⟨_,rfl,ZA ⟨_,rfl,r,_,rfl,.inr (SqT.of (s0 _ _ hR)),_,rfl,p,_,_,_,rfl,rfl,SqT.of (s0 _ _ N.e1),rfl,qa,_,rfl,.inr (SqT.of (s0 _ _ N.e2)),rfl,_,rfl,?_⟩⟩⟩;have hll:(nl l).length=l.length:=Qq _;refine Z3 (fun z=>by rw[hll,hl,<-hlen,Qu rfl]at z;cases z) (fun _=>?_);intro d hd;have s1:Same H (upd H0 d (.dT [])):=Same.trans s0 (Zh hd);have hd0:H d=none:=s0.none hd;refine⟨_,rfl,r,_,rfl,.inr (SqT.of (s1 _ _ hR)),_,rfl,by omega,by omega,Y1 (lo:=0) (n:=(((nl l).length:Nat):Int).toNat) (fun i σ G=>E3 fun kvs v4 v5=>σ=[some (.ref p),some (.ref r),some (.int (m:Int)),some (.ref d),v4,v5]/\Same H G/\G d=some (.dT kvs)/\kvs.length<=2*i/\Keys kvs (Used es (l.map some) i))
   ⟨[],_,_,rfl,s1,Zd,Qe _,fun p t=>⟨(fun z=>by cases z),fun z=>absurd z Used.zero⟩⟩ (fun i σ G hi xq1=>?_) (fun σ G⟨kvs,v4,v5,e,sG,gD,hkv,hK⟩=>by subst e;exact q G sG)⟩
  obtain⟨kvs,v4,v5,e,sG,gD,hkv,hK⟩:=xq1;subst e;rw[U5];have hil:i<l.length:=by omega
  have hie:i<es.length:=by omega
  obtain⟨tk,htk,hta⟩:=N.at' hie;obtain⟨_,_,ab⟩:=N.ok _ (getD_mem hie);obtain⟨t,ht⟩:∃t,l[i]?=some t:=⟨_,Qb hil⟩;have ho:(l.map some)[i]?=some (some t):=by rw[Qx,ht];rfl
  generalize hA:(es.getD i (0,0)).1=A1 at*;generalize hB:(es.getD i (0,0)).2=B1 at*;have nu:∀x,At (es.getD i (0,0)) x->¬Used es (l.map some) i x t:=fun x hx z=>CleanTo.not hie ho hx z hC;have n1:=nu A1 (.inl hA.symm);have n2:=nu B1 (.inr hB.symm);refine⟨_,rfl,p,_,_,_,rfl,rfl,SqT.of (sG _ _ N.e1),rfl,_,rfl,qa,_,_,_,rfl,rfl,SqT.of (sG _ _ N.e2),Zv htk,tk,rfl,⟨_,SqT.of (sG _ _ hta)⟩,Y5 (K:=K) (a:=tk) (xs:=[.int (A1:Int),.int (B1:Int)]) (fun j σ G=>∃kvs' w5,σ=[some (.ref p),some (.ref r),some (.int (m:Int)),some (.ref d),some (.int (i:Int)),w5]/\Same H G/\G d=some (.dT kvs')/\kvs'.length<=2*i+j/\Keys kvs' (fun x t'=>Used es (l.map some) i x t'\/(t'=t/\((1<=j/\x=A1)\/(2<=j/\x=B1)))))
   ⟨kvs,_,rfl,sG,gD,by omega,hK.iff fun x t'=>⟨.inl,fun z=>z.elim id fun⟨_,z2⟩=>by omega⟩⟩ (fun j σ G _⟨kvs',w5,_,sG,_⟩=>SqT.of (sG _ _ hta)) (fun j x σ G hx' xq1=>?_) (fun σ G xq1=>?_)⟩
  ·obtain⟨kvs',w5,e,sG,gD,gk,gK⟩:=xq1
   subst e;obtain⟨X1,rfl,hj,hnot,hks⟩:∃X1:Nat,x= .int (X1:Int)/\j<2/\¬(Used es (l.map some) i X1 t\/(t=t/\((1<=j/\X1=A1)\/(2<=j/\X1=B1))))/\
     (∀x' t',((Used es (l.map some) i x' t'\/(t'=t/\((1<=j/\x'=A1)\/(2<=j/\x'=B1))))\/(x'=X1/\t'=t))↔(Used es (l.map some) i x' t'\/(t'=t/\((1<=j+1/\x'=A1)\/(2<=j+1/\x'=B1))))):=by
    match j,hx' with
    |0,hx'=>
     cases hx'
     exact⟨A1,rfl,by decide,by grind,fun x' t'=>by grind⟩
    |1,hx'=>
     cases hx'
     exact⟨B1,rfl,by decide,by grind,fun x' t'=>by grind⟩
    |j+2,hx'=>cases hx'
   refine⟨_,rfl,_,rfl,_,rfl,r,_,_,_,rfl,rfl,SqT.of (sG _ _ hR),Zv (nl_get ht),rfl,fun t1 G1 u1 h1=>⟨_,rfl,d,_,rfl,DGet.t (k:=ky X1 t) (u1 _ _ gD) h1,_,rfl,Z3 (fun hz=>absurd ((gK _ _).mp hz) hnot) (fun hz=>?_)⟩⟩;have l1:=ZT kvs' (ky X1 t) (V.bl true);exact⟨_,rfl,_,rfl,_,rfl,_,rfl,r,_,_,_,rfl,rfl,SqT.of (u1 _ _ (sG _ _ hR)),Zv (nl_get ht),rfl,fun t2 G2 u2 h2=>⟨d,_,rfl,DPut.t (k:=ky X1 t) (u2 _ _ (u1 _ _ gD)) h2 (by rw[QP];omega),_,_,rfl,(Same.trans (Same.trans sG u1) u2).wr hd0,Zd,by omega,(gK.put _ _ _).iff hks⟩⟩
  ·obtain⟨kvs',w5,e,sG,gD,gk,gK⟩:=xq1
   subst e;refine⟨kvs',_,_,rfl,sG,gD,(by simp[QL,Ur]at gk;omega),gK.iff fun x t'=>?_⟩;rw[Used.succ,ho];simp only[QL,Ur];unfold At;rw[hA,hB]
   grind
end
end My

namespace L2
open PySem PySem.Spec PyProof.Rows
theorem FnOk.ex{K}{mg}{base}{CX}{k n}{f}{fd}{ps}{sp:Nat->Sp}(h:∀i,i<n->FnOk P w K mg base CX k f fd ps (sp i)):
  FnOk P w K mg base CX k f fd ps (fun vs H Q E=>∃i,i<n/\sp i vs H Q E):=
 ⟨fun vs H Q E⟨i,a,b⟩=>(h i a).len vs H Q E b,fun A _ s H _ g vs Q E d e c j⟨i,a,b⟩=>(h i a).run A _ s H _ g vs Q E d e c j b⟩
end L2
namespace My
open PySem L2
def kwG:List Value->List Value->List Value
 |[a],[c]=>[a,c]
 |_,_=>[]
def kwV:List V->List V->List V
 |[a],[c]=>[a,c]
 |_,_=>[]
theorem ZkG:∀{vs}{us}{zs}{ws},Vals vs us->Vals zs ws->Vals (kwV vs zs) (kwG us ws)
 |_,_,_,_,.cons c .nil,.cons d .nil=> .cons c (.cons d .nil)
 |_,_,_,_,.nil,_=> .nil
 |_,_,_,_,.cons _ (.cons _ _),_=> .nil
 |_,_,_,_,.cons _ .nil,.nil=> .nil
 |_,_,_,_,.cons _ .nil,.cons _ (.cons _ _)=> .nil
noncomputable def Zbp:Nat->WayF
 |0=>W1
 |1=>W2
 |2=>WP
 |_=>W3
def Zje(c1 c2 cP cM:Addr):Nat->Addr
 |0=>c1
 |1=>c2
 |2=>cP
 |_=>cM
def ZjL(c1 c2 cP cM:Addr):Sp:=fun vs H Q E=>∃i,i<5/\Zlt (Zbp i) (Zje c1 c2 cP cM i) cM vs H Q E
theorem ZiQ(h:TdOk es m es.length tl):∃l,tv tl=nl l/\tl=l.map some:=by
 have:∀(tl),(∀x∈tl,x≠none)->∃l,tv tl=nl l/\tl=l.map some:=by
  intro tl
  induction tl with
  |nil=>exact fun _=>⟨[],rfl,rfl⟩
  |_ x r d=>
   intro h;obtain⟨l,a,b⟩:=d fun y i=>h y (.tail _ i);cases x with
   |none=>grind
   |some t=>
    refine⟨t::l,?_,by rw[b];rfl⟩;show _::tv r=_::nl l;rw[a];rfl
 refine this tl fun x g e=>?_;subst e;obtain⟨j,f⟩:=UM g;obtain⟨t,_⟩:=h.had j (by rw[<-h.len];exact((Qd.mp f).1))
 grind
theorem ZiF(hM:0<=M):∀at':Nat,at'<5->([.int (if 2*M-1>0 then 2*M-1 else 0),.int M,.int (M+if(decide (M>0))=true then 1 else 0),.int (3*M/2),.int (3*M/2)]:List V)[at']?=some (.int ((Zbp at').nd M))
 |0,_=>by
  show some _=some (V.int (g0 M));unfold g0
  grind
 |1,_=>rfl
 |2,_=>by
  show some _=some (V.int (if 0<M then M+1 else 0))
  grind
 |3,_=>rfl
 |4,_=>rfl
theorem ZnH{n}(h1:H p=some (.tup [.int (n:Int),.ref q]))(h2:H q=some (.tup []))(hn:n<=60):NetZ H p n q [] []:=
 ⟨h1,h2,rfl,(fun i t e=>by cases e),QE _,hn,(fun e a=>by cases a)⟩
theorem Zkv:∀i,(Zbp i).ok []
 |0=>trivial
 |1=>⟨fun _=>true,fun e a=>by cases a⟩
 |2=>fun i j b=>by cases b
 |_+3=>trivial
section
variable{P:Program}{w:World}{K:PySem.W.Frag}{mg:Str->Option Value}{base:Heap}{c1 c2 cP cM:Addr}
abbrev Zd0:Stmt:=top 72
abbrev ZkC:List Str:=["_law_script","_law_draws_here","_law_net_here","_law_most_here","_law_at","_law_by_way","_law_need","_law_found","_law_points","_law_none"]
inductive ZgD(K:PySem.W.Frag)(vs:List V)(H:Hp)(Q:VK)(_z3:XK):Prop
 |mk (a:Addr) (ns:List Int) (_:vs=[.ref a]) (_:SqL K H a (ns.map V.int)) (_:ns.length<=63) (_:∀H',Q (.bl true) H')
theorem scLaw:Zm ZkC ["_law_script"] (Zg Zd0):=⟨rfl,rfl,rfl,by decide+kernel,rfl,by decide+kernel,by decide+kernel⟩
theorem Zm2{f fT:Addr}{fdT:FuncData}{cdv:Value}{A:Around}{outer:List _}{s:Shared}{H:Hp}{E:XK}{Q:VK}(hr:Room 10 (A.deeper (PyProof.Rows.envOfC "law" (Zg Zd0) s.heap.objs.size f cdv)))(T:Bi mg)(FT:FnOk P w K mg base CX0 10 fT fdT ["net","way"] (ZjL c1 c2 cP cM))(gT:mg "tinted"=some (.ref fT))(kT:PySem.W.keepIn K (.ref fT)=true)(bT:L2.Binds K fdT ["net","way"] [])(b1:L2.Binds K fdT ["net","way"] [.none])(bk:L2.Zca K fdT ["net","way"] ["way"] kwG kwV)
  (FF:FnE P w K mg base "_law_full_and_clean" ["_law_net_here","_law_tints","_law_need"] 10 spFc):
  ∃t,PSs (Yg CX0 P w K mg base ZkC "law" (Zg Zd0) f cdv A outer s H E).nox ((ZE Zd0).drop 6) t/\∀(G:Hp)(u0 u1:Option V)(p:Addr)(n:Nat)(q:Addr)(ts:List V)(es:List (Nat×Nat))(M:Int)(at':Nat)(v:V),NetZ G p n q ts es->es.length<=26->IsMax (dl es n) M->at'<5->WyV (Zje c1 c2 cP cM at') cM G v->(at'=4->v= .non)->(Zbp at').ok es->(∀H',Q (.bl true) H')->
   t {nx:=fun _ H'=>Q .non H',rt:=Q} [u0,u1,some (.ref p),some (.int M),some (.int (at':Int)),some v,none,none,none,none] G:=by
 obtain⟨t9,h9,r9⟩:∃t,PSs (Yg CX0 P w K mg base ZkC "law" (Zg Zd0) f cdv A outer s H E).nox ((ZE Zd0).drop 8) t/\∀(G:Hp)(u0 u1:Option V)(p r:Addr)(n:Nat)(q:Addr)(ts:List V)(es:List (Nat×Nat))(M:Int)(at' m:Nat)(v:V)(g:List (Option Nat)),NetZ G p n q ts es->es.length<=26->IsMax (dl es n) M->at'<5->WyV (Zje c1 c2 cP cM at') cM G v->(Zbp at').ok es->(m:Int)=(Zbp at').nd M->G r=some (.tup (tv g))->Td (Zbp at') es n m es.length g->TdOk es m es.length g->(∀H',Q (.bl true) H')->
   t {nx:=fun _ H'=>Q .non H',rt:=Q} [u0,u1,some (.ref p),some (.int M),some (.int (at':Int)),some v,some (.int (m:Int)),some (.ref r),none,none] G:=by
  refine⟨_,Zb (ZG QD rfl (JI (Zao (Zc Ze (Zc Ze Za)))) (Zu (i:=8) scLaw.nd rfl (Or.inl rfl))
    (Zb (Zl (i:=9) scLaw.nd rfl (Or.inl rfl) (Zbe FT hr rfl gT kT bT .nil Zcu (Zc (Z1 (Zc (pv 8) (Zc (Z1 Za) Za))) (Zc (pv 5) Za))))
    (Zf (Z2 (PW.pt (pw_or (Yq (Yb (Zo ZU rfl T.isi Zaf (Zc (pv 9) (Zc (YC (v:= .ty "tuple") rfl T.tuple Y2 rfl) Za))))) (pw_or1 (Zp (Zko hr) (pv 9) (Z1 Za) rfl)))) ZO Zw))))
   (Zf (Zn (Ys (Zs FF hr (Zc (pv 2) (Zc (pv 7) (Zc (pv 6) Za)))) (YO (Yr (Zkr hr) (Zbe FT hr rfl gT kT bT .nil Zcu (Zc (pv 2) (Zc (pv 5) Za))) (pv 7) rfl))))),?_⟩
  intro G u0 u1 p r n q ts es M at' m v g N h26 hM ha hv hO hm hR c b hq;obtain⟨l,e1,e2⟩:=ZiQ b;refine⟨rfl,fun ll G1 s1 hll=>⟨ll,rfl,⟨_,SqL.of hll⟩,Za0 (K:=K) (a:=ll) (xs:=[.int 0,.int 1]) (fun i σ d=>Same G1 d/\∃v8 v9,σ=[u0,u1,some (.ref p),some (.int M),some (.int (at':Int)),some v,some (.int (m:Int)),some (.ref r),v8,v9]) ⟨Same.refl _,_,_,rfl⟩ (fun i σ d _ z=>SqL.of (z.1 _ _ hll)) (fun i x σ d hx xq1=>?_) (fun σ d xq1=>?_)⟩⟩
  ·obtain⟨s2,v8,v9,e⟩:=xq1
   subst e;obtain⟨j,rfl,hj⟩:∃j:Nat,x= .int (j:Int)/\j<=1:=by
    match i,hx with
    |0,hx=>cases hx;exact⟨0,rfl,by decide⟩
    |1,hx=>cases hx;exact⟨1,rfl,by decide⟩
    |i+2,hx=>cases hx
   refine⟨_,rfl,rfl,fun t1 G3 s3 h3=>⟨rfl,fun t2 G4 s4 h4=>⟨_,rfl,at',ha,t2,v,j,t1,[],[],rfl,ZnH h4 (s4 _ _ h3) (by omega),hv.same (Same.trans s1 (Same.trans s2 (Same.trans s3 s4))),Zkv _,by decide,fun G5 r5 tl5 m5 s5 h5 _ _ ok5=>?_⟩⟩⟩;have e5:=List.eq_nil_of_length_eq_zero ok5.len;subst e5;refine⟨_,rfl,_,_,_,_,rfl,.tup h5,kit K "tuple" "tuple" true (by decide+kernel),_,rfl,ZA ⟨_,rfl,rfl,fun t6 G6 s6 h6=>⟨r5,t6,[],[],rfl,rfl,.inl ⟨SqT.of (s6 _ _ h5),SqT.of h6⟩,rfl,(fun i u v h=>by cases h),_,rfl,ZA ⟨Same.trans s2 (Same.trans s3 (Same.trans s4 (Same.trans s5 s6))),_,_,rfl⟩⟩⟩⟩
  ·obtain⟨s2,v8,v9,e⟩:=xq1
   subst e;have sA:=Same.trans s1 s2;have hR2:=sA _ _ hR;refine⟨_,rfl,_,rfl,_,rfl,p,r,n,q,ts,es,l,m,rfl,N.same sA,by rw[<-e1];exact hR2,(show l.length=es.length by rw[<-b.len,e2,Qq]),fun x hx=>b.lt x (by rw[e2];exact QQ.mpr ⟨x,hx,rfl⟩),by rw[<-e2];exact b.cl,fun G3 s3=>⟨_,rfl,Yi ⟨_,rfl,_,rfl,at',ha,p,v,n,q,ts,es,rfl,N.same (Same.trans sA s3),hv.same (Same.trans sA s3),hO,by omega,fun G4 r4 tl4 m4 s4 h4 xq1 hT4 _=>?_⟩⟩⟩;obtain⟨M4,hM4,hm4⟩:=xq1;have em:m4=m:=by rw[hM4.uniq hM,<-hm]at hm4;omega
   subst em;have et:=hT4.uniq c;subst et;refine⟨_,rfl,r4,r,nl l,nl l,rfl,rfl,.inl ⟨SqT.of (by rw[<-e1];exact h4),SqT.of (by rw[<-e1];exact s4 _ _ (s3 _ _ hR2))⟩,rfl,(fun i u v h1 h2=>?_),hq _⟩;rw[h1]at h2;cases h2;obtain⟨x,_,rfl⟩:=Zj0 h1;exact Sam.atom trivial
 refine⟨_,Zb (Zl (i:=6) scLaw.nd rfl (Or.inl rfl) (Zk Zz (Zao (Zc (Zo (ZcA rfl) rfl T.max ZhU (Zc Ze (Zc (Zt Jk (Zt Y9 Ze (pv 3)) Ze) Za))) (Zc (pv 3) (Zc (Zt ZS (pv 3) (Z8 Zgv rfl T.int ZkW (Zc (Yr ZgZ (pv 3) Ze (Zx _)) Za))) (Zc (Zt Yt (Zt Y9 Ze (pv 3)) Ze) (Zc (Zt Yt (Zt Y9 Ze (pv 3)) Ze) Za)))))) (pv 4) (fun _ _=>rfl)))
  (Zb (Z2 (Zp ZK (pv 4) Ze (Zx _)) (Zf (Zl (i:=7) scLaw.nd rfl (Or.inl rfl) (Zbe FT hr rfl gT kT b1 (.cons (show RelV .non Value.none from rfl) .nil) Zcu (Zc (pv 2) Za)))) (Zf (Zl (i:=7) scLaw.nd rfl (Or.inl rfl) (ZgV FT hr rfl gT kT bk Zcu (Zc (pv 2) Za) (Zi1 (pv 5) Zkh))))) h9),fun G u0 u1 p n q ts es M at' v N h26 hM ha hv h4 hO hq=>⟨_,rfl,_,_,rfl,rfl,.inl ⟨by decide,by decide⟩,_,_,rfl,rfl,_,_,rfl,_,rfl,_,rfl,_,rfl,_,_,rfl,rfl,.inr ⟨_,rfl,_,_,rfl,rfl,_,rfl,_,_,rfl,rfl,.inl ⟨by decide,by decide⟩,_,_,rfl,rfl,⟨by decide,by decide⟩,_,rfl,_,_,rfl,rfl,.inl ⟨by decide,by decide⟩,_,_,rfl,rfl,⟨by decide,by decide⟩,rfl,fun ll G1 s1 hll=>⟨_,rfl,ll,_,_,_,rfl,rfl,SqL.of hll,Zv (ZiF (Zav hM).1 at' ha),?_⟩⟩⟩⟩
 have fin:∀(d:Hp)(r:Addr)(g:List (Option Nat))(m:Nat),Same G d->d r=some (.tup (tv g))->(∃M,IsMax (dl es n) M/\(m:Int)=(Zbp at').nd M)->Td (Zbp at') es n m es.length g->TdOk es m es.length g->t9 {nx:=fun _ H'=>Q .non H',rt:=Q} [u0,u1,some (.ref p),some (.int M),some (.int (at':Int)),some v,some (.int ((Zbp at').nd M)),some (.ref r),none,none] d:=fun d r g m s2 hR⟨M2,hM2,hm2⟩ c b=>by
  rw[hM2.uniq hM]at hm2;rw[<-hm2];exact r9 d u0 u1 p r n q ts es M at' m v g (N.same s2) h26 hM ha (hv.same s2) hO hm2 hR c b hq
 refine⟨_,rfl,rfl,_,rfl,Z3 (fun z=>?_) (fun z=>?_)⟩
 ·have e4:at'=4:=by have:=V.int.inj (Qr z);omega
  subst e4;exact⟨_,rfl,4,by decide,p,.non,n,q,ts,es,rfl,N.same s1,.inr ⟨rfl,rfl⟩,hO,by omega,fun d r g m s2 hR h1 c b=>fin d r g m (Same.trans s1 s2) hR h1 c b⟩
 ·exact⟨_,rfl,_,rfl,at',ha,p,v,n,q,ts,es,rfl,N.same s1,hv.same s1,hO,by omega,fun d r g m s2 hR h1 c b=>fin d r g m (Same.trans s1 s2) hR h1 c b⟩
end
theorem Zau{x dx C}(hx:H x=none)(hdx:H dx=none)(hne:dx≠x):Same H (upd (upd H dx (.own x)) x (.ins C dx [])):=Same.trans (Zh hdx) (Zh (by rw[Zi (Ne.symm hne)];exact hx))
theorem Zj9{c1 c2 cP cM x1 x2 x3 x4 d1 d2 d3 d4}{G}(h1:G x1=some (.ins c1 d1 []))(h2:G x2=some (.ins c2 d2 []))(h3:G x3=some (.ins cP d3 []))(h4:G x4=some (.ins cM d4 [])):∀at':Nat,at'<5->∃v,([.ref x1,.ref x2,.ref x3,.ref x4,.non])[at']?=some v/\WyV (Zje c1 c2 cP cM at') cM G v/\(at'=4->v= .non)/\(at'=1->∃s dx,v= .ref s/\G s=some (.ins c2 dx []))/\(at'=2->∃s dx,v= .ref s/\G s=some (.ins cP dx []))
 |0,_=>⟨_,rfl,.inl ⟨_,_,rfl,h1⟩,nofun,nofun,nofun⟩
 |1,_=>⟨_,rfl,.inl ⟨_,_,rfl,h2⟩,nofun,fun _=>⟨_,_,rfl,h2⟩,nofun⟩
 |2,_=>⟨_,rfl,.inl ⟨_,_,rfl,h3⟩,nofun,nofun,fun _=>⟨_,_,rfl,h3⟩⟩
 |3,_=>⟨_,rfl,.inl ⟨_,_,rfl,h4⟩,nofun,nofun,nofun⟩
 |4,_=>⟨_,rfl,.inr ⟨rfl,rfl⟩,fun _=>rfl,nofun,nofun⟩
section
variable{P:Program}{w:World}{K:PySem.W.Frag}{mg:Str->Option Value}{base:Heap}{c1 c2 cP cM:Addr}
theorem Zk5{fd fdT}(F:Fun K "law" "law" Zd0 f fd)(T:Bi mg)(g1:mg "Way"=some (.ref c1))(g2:mg "TwoSided"=some (.ref c2))(gP:mg "Plain"=some (.ref cP))(gM:mg "Manifold"=some (.ref cM))(m1:Mk0 K c1)(m2:Mk0 K c2)(mP:Mk0 K cP)(mM:Mk0 K cM)
  (FDs:FnE P w K mg base "_law_draws" ["_law_script","_law_many"] 10 (Zlv K))(FNt:FnE P w K mg base "_law_net" ["_law_draws_here","_law_at"] 10 (Zjr K))(FLm:FnE P w K mg base "_law_most" ["_law_net_here"] 10 spLm)(FD:FnE P w K mg base "_law_draw" ["_law_draws_here","_law_k"] 10 (Zeo K))
  (F2:FnE P w K mg base "_law_two_sided" ["_law_net_here"] 10 spT2)(FTw:FnE P w K mg base "_law_twins" ["_law_net_here"] 10 spTw)(FR:FnE P w K mg base "_law_refused" ["_law_net_here","_law_by_way"] 10 (Zlu c2 cP))
  (FT:FnOk P w K mg base CX0 10 fT fdT ["net","way"] (ZjL c1 c2 cP cM))(gT:mg "tinted"=some (.ref fT))(kT:PySem.W.keepIn K (.ref fT)=true)(bT:L2.Binds K fdT ["net","way"] [])(b1:L2.Binds K fdT ["net","way"] [.none])(bk:L2.Zca K fdT ["net","way"] ["way"] kwG kwV)
  (FF:FnE P w K mg base "_law_full_and_clean" ["_law_net_here","_law_tints","_law_need"] 10 spFc):FnOk P w K mg base CX0 11 f fd ["_law_script"] (ZgD K):=by
 refine F.ok (k:=10) scLaw (fun vs H Q E h=>?_) (fun cdv A outer s H vs Q E hr h=>?_)
 ·obtain⟨a,ns,rfl,_⟩:=h
  rfl
 ·obtain⟨a,ns,rfl,hS,hl,q⟩:=h
  obtain⟨tB,hB,rB⟩:=Zm2 (f:=f) (cdv:=cdv) (outer:=outer) (H:=H) (E:=E) (Q:=Q) hr T FT gT kT bT b1 bk FF;refine⟨_,Zb (Zl (i:=1) scLaw.nd rfl (Or.inl rfl) (Zs FDs hr (Zc (pv 0) (Zc Ze Za))))
   (Zb (Zl (i:=2) scLaw.nd rfl (Or.inl rfl) (Zs FNt hr (Zc (pv 1) (Zc Ze Za))))
   (Zb (Zl (i:=3) scLaw.nd rfl (Or.inl rfl) (Zs FLm hr (Zc (pv 2) Za)))
   (Zb (Zl (i:=4) scLaw.nd rfl (Or.inl rfl) (Zt ZN (Zs FD hr (Zc (pv 1) (Zc Ze Za))) Ze))
   (Zb (Zl (i:=5) scLaw.nd rfl (Or.inl rfl) (Zk Zz (Zao (Zc (Zb6 m1 rfl g1) (Zc (Zb6 m2 rfl g2) (Zc (Zb6 mP rfl gP) (Zc (Zb6 mM rfl gM) (Zc ZH Za)))))) (pv 4) (fun _ _=>rfl)))
   (Zb (Z2 (PW.pt (pw_or (PW.pt (pw_and (Zp ZK (pv 4) Ze (Zx _)) (pw_and1 (Yq (Yb (Zs F2 hr (Zc (pv 2) Za))))))) (pw_or1 (PW.pt (pw_and (Zp ZK (pv 4) Ze (Zx _)) (pw_and1 (Yb (Zs FTw hr (Zc (pv 2) Za)))))))))
    (Zf (Zn (Zs FR hr (Zc (pv 2) (Zc (pv 5) Za))))) Zw) hB))))),_,rfl,a,ns,rfl,hS,hl,fun H1 d ds s1 hd hDr=>⟨_,rfl,d,ds,rfl,SqL.of hd,hDr,fun H2 p n qa ts es s2 N n2 h26=>⟨_,rfl,p,n,qa,ts,es,rfl,N,by omega,fun H3 M s3 hM=>⟨_,rfl,d,ds,_,rfl,SqL.of (s3 _ _ (s2 _ _ hd)),hDr,by decide,by decide,_,_,rfl,rfl,(by show(0:Int)<5;decide),?_⟩⟩⟩⟩
  obtain⟨c,hat⟩:∃m:Nat,draw ds 0%5=(m:Int):=⟨(draw ds 0%5).toNat,by omega⟩;dsimp only[ZaZ];rw[hat];have ha:c<5:=by omega
  intro x1 e1 a1 b1' ne1;have z1:=Zau (C:=c1) a1 b1' ne1;have i1:(upd (upd H3 e1 (.own x1)) x1 (.ins c1 e1 [])) x1=some (.ins c1 e1 []):=Zd;generalize upd (upd H3 e1 (.own x1)) x1 (.ins c1 e1 [])=G1 at z1 i1;intro x2 e2 a2 b2 ne2;have z2:=Zau (C:=c2) a2 b2 ne2;have i2:(upd (upd G1 e2 (.own x2)) x2 (.ins c2 e2 [])) x2=some (.ins c2 e2 []):=Zd;generalize upd (upd G1 e2 (.own x2)) x2 (.ins c2 e2 [])=G2 at z2 i2;intro x3 e3 a3 b3 ne3;have z3:=Zau (C:=cP) a3 b3 ne3;have i3:(upd (upd G2 e3 (.own x3)) x3 (.ins cP e3 [])) x3=some (.ins cP e3 []):=Zd;generalize upd (upd G2 e3 (.own x3)) x3 (.ins cP e3 [])=G3 at z3 i3;intro x4 e4 a4 b4 ne4;have z4:=Zau (C:=cM) a4 b4 ne4;have i4:(upd (upd G3 e4 (.own x4)) x4 (.ins cM e4 [])) x4=some (.ins cM e4 []):=Zd;generalize upd (upd G3 e4 (.own x4)) x4 (.ins cM e4 [])=G4 at z4 i4;refine⟨rfl,fun ll G5 z5 hll=>?_⟩;obtain⟨v,hv,hw,h4,hT,hP⟩:=Zj9 (c1:=c1) (z5 _ _ (z4 _ _ (z3 _ _ (z2 _ _ i1)))) (z5 _ _ (z4 _ _ (z3 _ _ i2))) (z5 _ _ (z4 _ _ i3)) (z5 _ _ i4) c ha;refine⟨_,rfl,ll,_,_,_,rfl,rfl,SqL.of hll,Zv hv,?_⟩;have N5:=(N.same s3).same (Same.trans z1 (Same.trans z2 (Same.trans z3 (Same.trans z4 z5))));have go:∀G6,Same G5 G6->(Zbp c).ok es->tB {nx:=fun _ H'=>Q .non H',rt:=Q} [some (.ref a),some (.ref d),some (.ref p),some (.int M),some (.int (c:Int)),some v,none,none,none,none] G6:=fun G6 z6 hO=>rB G6 _ _ p n qa ts es M c v (N5.same z6) h26 hM ha (hw.same z6) h4 hO q;have no:∀k:Nat,c≠k->¬V.int (c:Int)=V.int (k:Int):=fun k h z=>h (by have:=V.int.inj z;omega);refine⟨_,rfl,rfl,_,rfl,Z3 (fun z=>?_) (fun z=>?_)⟩
  ·have e:c=1:=by have:=V.int.inj (Qr z);omega
   subst e;refine⟨_,rfl,p,n,qa,ts,es,rfl,N5,fun G6 b z6 hb=>⟨_,rfl,?_⟩⟩;cases b with
   |false=>
    obtain⟨sw,dw,rfl,hsw⟩:=hT rfl;exact Yi ⟨_,rfl,_,rfl,p,sw,dw,n,qa,ts,es,rfl,N5.same z6,.inl ⟨z6 _ _ hsw,fun h=>by cases hb.mpr h⟩,fun H' _=>q H'⟩
   |true=>
    refine ZA ⟨_,rfl,rfl,_,rfl,Z3 (fun z=>absurd (Qr z) (no 2 (by decide))) (fun _=>ZA (go G6 z6 (hb.mp rfl)))⟩
  ·have n1:c≠1:=fun e=>z (Qu (by rw[e];rfl))
   refine ZA ⟨_,rfl,rfl,_,rfl,Z3 (fun z=>?_) (fun z=>?_)⟩
   ·have e:c=2:=by have:=V.int.inj (Qr z);omega
    subst e;refine⟨_,rfl,p,n,qa,ts,es,rfl,N5,fun G6 b z6 hb=>⟨_,rfl,?_⟩⟩;cases b with
    |true=>
     obtain⟨sw,dw,rfl,hsw⟩:=hP rfl;exact Yi ⟨_,rfl,_,rfl,p,sw,dw,n,qa,ts,es,rfl,N5.same z6,.inr ⟨z6 _ _ hsw,hb.mp rfl⟩,fun H' _=>q H'⟩
    |false=>exact ZA (go G6 z6 (plain_twin.mpr fun h=>by cases hb.mpr h))
   ·have n2':c≠2:=fun e=>z (Qu (by rw[e];rfl))
    refine ZA (go G5 (Same.refl _) ?_)
    match c,n1,n2' with
    |0,_,_=>trivial
    |_+3,_,_=>trivial
end
section
variable{P:Program}{w:World}{K:PySem.W.Frag}{mg:Str->Option Value}{base:Heap}
abbrev Zl3:Stmt:=inClass (top 27) 0
abbrev ZnA:Stmt:=inClass (top 27) 3
theorem Zk0(F:Fun K "needed" "Way.needed" Zl3 f fd)(T:Bi mg):FnOk P w K mg base CX0 1 f fd ["self","most"] (Zbx W1):=by
 refine F.ok (N:=["self","most"]) ⟨rfl,rfl,rfl,by decide+kernel,rfl,by decide+kernel,by decide+kernel⟩ (fun b H Q E h=>?_) (fun _ A _ s H b Q E _ h=>?_)
 ·obtain⟨p,m,rfl,_⟩:=h
  rfl
 ·obtain⟨p,m,rfl,_,q⟩:=h
  exact⟨_,Zf (Zn (Zo (ZcA rfl) rfl T.max ZhU (Zc (Zt Jk (Zt Y9 Ze (pv 1)) Ze) (Zc Ze Za)))),_,rfl,_,_,rfl,rfl,.inl ⟨by decide,by decide⟩,_,_,rfl,rfl,_,_,rfl,q⟩
end
end My
open PySem PySem.Spec PyProof.Rows
namespace L2
structure Df(K:PySem.W.Frag)(mg:Str->Option Value)(x:Str)(st:Stmt)(ps:List Str)(f:Addr)(fd:FuncData):Prop where
 g:mg x=some (.ref f)
 F:Fun K x x st f fd
 b:∀(kV doc pm:Value)(an:Option Addr)(cdv ct:Value)(us:List Value),us.length=ps.length->bindArgs (PySem.W.fnOf x x (JN st) (ZE st) (Zg st) .none kV doc pm an cdv ct) ⟨us,[]⟩=pure (ps.zip us)
structure Dm(K:PySem.W.Frag)(C:Addr)(m q:Str)(st:Stmt)(ps:List Str)(f:Addr)(fd:FuncData):Prop where
 M:Zgz K C m f
 F:Fun K m q st f fd
 b:∀(kV doc pm:Value)(an:Option Addr)(cdv ct:Value)(us:List Value),us.length=ps.length->bindArgs (PySem.W.fnOf m q (JN st) (ZE st) (Zg st) .none kV doc pm an cdv ct) ⟨us,[]⟩=pure (ps.zip us)
section
variable{K:PySem.W.Frag}{mg:Str->Option Value}{x q:Str}{st:Stmt}{ps:List Str}{f c:Addr}{fd:FuncData}{n j:Nat}{sp:Sp}(P:Program)(w:World)(base:Heap)
theorem Df.k(D:Df K mg x st ps f fd):PySem.W.keepIn K (.ref f)=true:=D.F.kp
theorem Df.B(D:Df K mg x st ps f fd):Binds K fd ps []:=D.F.binds D.b
theorem Df.e(D:Df K mg x st ps f fd)(h:FnOk P w K mg base CX0 n f fd ps sp):FnE P w K mg base x ps n sp:=⟨⟨f,fd,h,D.g,D.k,D.B⟩⟩
theorem Dm.B(D:Dm K c x q st ps f fd):Binds K fd ps []:=D.F.binds D.b
theorem Dm.e(mg)(D:Dm K c x q st ps f fd)(C:Cls K c)(h:FnOk P w K mg base CX0 n f fd ps sp):MeE P w K mg base c x ps n sp:=⟨⟨f,fd,h,D.M,C,D.B⟩⟩
theorem FnE.up{P}{w}{base}(F:FnE P w K mg base x ps j sp)(h:j<=n:=by decide):FnE P w K mg base x ps n sp:=F.mono h
theorem MeE.up{P}{w}{base}(F:MeE P w K mg base c x ps j sp)(h:j<=n:=by decide):MeE P w K mg base c x ps n sp:=F.mono h
end
structure Dd(K:PySem.W.Frag)(mg:Str->Option Value)(x:Str)(st:Stmt)(ps:List Str)(f:Addr)(fd:FuncData):Prop where
 g:mg x=some (.ref f)
 F:FunD K x x st f fd
 k:PySem.W.keepIn K (.ref f)=true
 B:Binds K fd ps []
theorem Dd.e{K:PySem.W.Frag}{mg:Str->Option Value}{x:Str}{st:Stmt}{ps:List Str}{f:Addr}{fd:FuncData}{k:Nat}{sp:Sp}(P:Program)(w:World)(base:Heap)(D:Dd K mg x st ps f fd)(h:FnOk P w K mg base CX0 k f fd ps sp):FnE P w K mg base x ps k sp:=⟨⟨f,fd,h,D.g,D.k,D.B⟩⟩
end L2
namespace My
open PySem L2
theorem all_mk{K}{mg}{fa cW cM cP cT f1 f2 f3 f4 f5 f6 f7 f8 f9 f10 f11 f12 f13 f14 f15 f16 f17 f18 f19 f20 f21 f22 f23 f24 f25 f26 f27 f28 f29 f30 f31 f32 f33 f34 f35 f36 f37 f38 f39 f40 f41 f42 f43 f44 f45 f46 f47 f48 f49 fNW fAW fPW fRW fNM fAM fPM fRM fNP fAP fPP fRP fNT fAT fPT fRT fIR fIQ}{d1 d2 d3 d4 d5 d6 d7 d8 d9 d10 d11 d12 d13 d14 d15 d16 d17 d18 d19 d20 d21 d22 d23 d24 d25 d26 d27 d28 d29 d30 d31 d32 d33 d34 d35 d36 d37 d38 d39 d40 d41 d42 d43 d44 d45 d46 d47 d48 d49 dNW dAW dPW dRW dNM dAM dPM dRM dNP dAP dPP dRP dNT dAT dPT dRT dIR dIQ}{tA}{cTE cR cQ cF}(hfa:mg "law"=some (.ref fa))
  (D1:Df K mg "is_number" ZjO ["thing"] f1 d1)(D2:Df K mg "is_below" ZjV ["thing","bound"] f2 d2)(D3:Df K mg "ties_at" sAt ["net","point"] f3 d3)(D4:Df K mg "across" sAc ["net","tie","point"] f4 d4)(D5:Df K mg "most_of" sMo ["net"] f5 d5)(D6:Df K mg "two_tinted" sTt ["net","tints","one","other"] f6 d6)(D7:Df K mg "chain" sCh ["net","tints","point","one","other"] f7 d7)(D8:Df K mg "chain_ends" sCe ["net","tints","point","one","other"] f8 d8)(D9:Df K mg "turned" sTu ["net","tints","point","one","other"] f9 d9)(D10:Df K mg "is_tint" sIt ["thing"] f10 d10)(D11:Df K mg "is_clean" sPc ["net","tints"] f11 d11)(D12:Df K mg "tints_at" sTa ["net","tints","point"] f12 d12)(D13:Df K mg "free_tints" sFt ["net","tints","point","many"] f13 d13)(D14:Df K mg "free_at_both" sFb ["net","tints","one","other","many"] f14 d14)(D15:Df K mg "handed_over" sHo ["tie","giver","given","new"] f15 d15)(D16:Df K mg "room_by_a_third" sRm ["net","tints","tie","many"] f16 d16)(D17:Df K mg "way_or_manifold" sWm ["way"] f17 d17)(D18:Df K mg "is_turn_step" sTs ["net","thing"] f18 d18)(D19:Df K mg "is_tint_step" sTn ["net","thing"] f19 d19)(D20:Df K mg "is_bare_step" sBs ["net","thing"] f20 d20)(D21:Df K mg "is_step" sIs ["net","thing"] f21 d21)(D22:Df K mg "done" sDo ["net","tints","step"] f22 d22)(D23:Df K mg "walked" sWa ["net","tints","steps"] f23 d23)(D24:Df K mg "behind" sBh ["net","tints","steps"] f24 d24)(D25:Dd K mg "tinted" sTd ["net","way"] f25 d25)(D26:Df K mg "like_pair" sLp ["net"] f26 d26)(D27:Df K mg "next_in_fan" sNf ["net","tints","hub","fan","many"] f27 d27)(D28:Df K mg "fan_of" sFa ["net","tints","hub","tie","many"] f28 d28)(D29:Df K mg "handed_on" sHn ["tints","fan","last_tint"] f29 d29)(D30:Df K mg "turned_and_handed_on" sTh ["net","tints","hub","fan","many"] f30 d30)(D31:Df K mg "neighbours" Sd.sNb ["net"] f31 d31)(D32:Df K mg "spread" Sd.sSpr ["tied","row","above","root"] f32 d32)(D33:Df K mg "closed" Sd.sCl ["above","one","other"] f33 d33)(D34:Df K mg "sides" Sd.sSd ["net"] f34 d34)(D35:Df K mg "_law_mixed" sMx ["_law_cell","_law_k"] f35 d35)(D36:Df K mg "_law_draws" sDs ["_law_script","_law_many"] f36 d36)(D37:Df K mg "_law_draw" ZgH ["_law_draws_here","_law_k"] f37 d37)(D38:Df K mg "_law_tie" ZcO ["_law_number","_law_k","_law_points","_law_kind"] f38 d38)(D39:Df K mg "_law_net" ZgG ["_law_draws_here","_law_at"] f39 d39)(D40:Df K mg "_law_two_sided" sT2 ["_law_net_here"] f40 d40)(D41:Df K mg "_law_twins" sTw ["_law_net_here"] f41 d41)(D42:Df K mg "_law_most" sLm ["_law_net_here"] f42 d42)(D43:Df K mg "_law_whole" sWh ["_law_found"] f43 d43)(D44:Df K mg "_law_numbers" sNu ["_law_found","_law_most_here"] f44 d44)(D45:Df K mg "_law_is_ring" sRi ["_law_net_here","_law_ring"] f45 d45)(D46:Df K mg "_law_is_pair" sPr ["_law_net_here","_law_pair"] f46 d46)(D47:Df K mg "_law_refused" sRf ["_law_net_here","_law_by_way"] f47 d47)(D48:Df K mg "_law_full_and_clean" sFc ["_law_net_here","_law_tints","_law_need"] f48 d48)(D49:Df K mg "law" Zd0 ["_law_script"] f49 d49)(gW:mg "Way"=some (.ref cW))(DNW:Dm K cW "needed" "Way.needed" Zl3 ["self","most"] fNW dNW)(DAW:Dm K cW "asked" "Way.asked" sAk ["self","net"] fAW dAW)(DPW:Dm K cW "put" "Way.put" ZfL ["self","net","tints","tie","many"] fPW dPW)(DRW:Dm K cW "made_room" "Way.made_room" ZnA ["self","net","tints","tie","many"] fRW dRW)(CW:Cls K cW)(mW:Mk0 K cW)(gM:mg "Manifold"=some (.ref cM))(DNM:Dm K cM "needed" "Manifold.needed" ZjQ ["self","most"] fNM dNM)(DAM:Dm K cM "asked" "Way.asked" sAk ["self","net"] fAM dAM)(DPM:Dm K cM "put" "Way.put" ZfL ["self","net","tints","tie","many"] fPM dPM)(DRM:Dm K cM "made_room" "Manifold.made_room" ZjT ["self","net","tints","tie","many"] fRM dRM)(CM:Cls K cM)(mM:Mk0 K cM)(gP:mg "Plain"=some (.ref cP))(DNP:Dm K cP "needed" "Plain.needed" ZjP ["self","most"] fNP dNP)(DAP:Dm K cP "asked" "Plain.asked" ZjW ["self","net"] fAP dAP)(DPP:Dm K cP "put" "Way.put" ZfL ["self","net","tints","tie","many"] fPP dPP)(DRP:Dm K cP "made_room" "Plain.made_room" ZjS ["self","net","tints","tie","many"] fRP dRP)(CP:Cls K cP)(mP:Mk0 K cP)(gT:mg "TwoSided"=some (.ref cT))(DNT:Dm K cT "needed" "TwoSided.needed" ZjR ["self","most"] fNT dNT)(DAT:Dm K cT "asked" "TwoSided.asked" ZjX ["self","net"] fAT dAT)(DPT:Dm K cT "put" "Way.put" ZfL ["self","net","tints","tie","many"] fPT dPT)(DRT:Dm K cT "made_room" "TwoSided.made_room" ZjU ["self","net","tints","tie","many"] fRT dRT)(CT:Cls K cT)(mT:Mk0 K cT)(zA:mg "ALL_TINTS"=some (.int 1000 tA))(GZ:Gz mg cR cQ cF cTE cT cP)(hbe:PySem.W.mroIn K cTE (.type "BaseException")=some true)(W1':Kz K cR cQ cF cTE cR true)(W2':Kz K cR cQ cF cTE cQ false)(oT:OwnC K cT)(oP:OwnC K cP)(kT:PySem.W.kitOne K (.ref cT) (.ref cT)=some true)(kP:PySem.W.kitOne K (.ref cP) (.ref cP)=some true)(XCR:RX.XCl K cR cTE)(DIR:Dm K cR "__init__" "NotTwoSided.__init__" sIr ["self","ring"] fIR dIR)(neR:PySem.W.findIn K (.ref cR) "ring"=some none)(XCQ:RX.XCl K cQ cTE)(DIQ:Dm K cQ "__init__" "NotPlain.__init__" sIp ["self","pair"] fIQ dIQ)(neQ:PySem.W.findIn K (.ref cQ) "pair"=some none)(bO:Binds K d25 ["net","way"] [.none])(bk:Zca K d25 ["net","way"] ["way"] kwG kwV)(T:Bi mg)(z12:mg "sorted"=none)(z13:mg "str"=none)(z14:mg "enumerate"=none)(z15:mg "reversed"=none)(z16:mg "set"=none)(hb:∀s v,BindsTo s d49 ⟨[v],[]⟩ [("_law_script",v)])
  :∃fd:FuncData,(∀(s:Shared)(v:Value),BindsTo s fd ⟨[v],[]⟩ [("_law_script",v)])/\∀base:Heap,K.In base->base.Ns mainGlobals mg->FnOk P w K mg base CX0 11 fa fd ["_law_script"] (ZgD K):=by
 cases hfa.symm.trans D49.g
 refine⟨_,hb,fun base _ _=>?_⟩;have E2:=D2.e P w base (Zk6 D2.F (D1.e P w base (Zku D1.F T)));have E3:=D3.e P w base (Zmw D3.F T z14);have E4:=D4.e P w base (Zmx D4.F);have E5:=D5.e P w base (Zmd D5.F T);have E7:=D7.e P w base (Zms D7.F T z12 (D6.e P w base (ZlP D6.F T z14)) E4);have E9:=D9.e P w base (ZlO D9.F T E7);have E10:=D10.e P w base (Zmg D10.F zA E2);have E12:=D12.e P w base (ZlT D12.F T);have c:=D13.e P w base (Zmm D13.F T E12);have b:=D14.e P w base (Zmo D14.F T E12.up c);have E22:=D22.e P w base (Zmr D22.F T (D21.e P w base (Zmh D21.F T z13 (D18.e P w base (ZlQ D18.F T E2.up E10)) (D19.e P w base (ZlR D19.F T E2.up E10)) (D20.e P w base (Zmu D20.F T E2.up)))) E9.up (D11.e P w base (ZlZ D11.F T)).up);have d:=D24.e P w base (Zmv D24.F (D23.e P w base (ZlM D23.F E22)));have E26:=D26.e P w base (Zme D26.F T z14);have E29:=D29.e P w base (Zml D29.F T);have E34:=D34.e P w base (Sd.ok_sd D34.F T (D31.e P w base (Sd.ok_nb D31.F T)) (D32.e P w base (Sd.ok_spr D32.F T)) (D33.e P w base (Sd.ok_cl D33.F T z15)));have E37:=D37.e P w base (ZiB D37.F T);have E44:=D44.e P w base (Zma D44.F T (D43.e P w base (ZlL D43.F T)));have AW:MeE P w K mg base cW "asked" ["self","net"] 6 (Zbz W1):=MeE.up ((DAW.e P w base mg CW (Zjy DAW.F)).imp fun _ _ _ _=>ak1);have NW:MeE P w K mg base cW "needed" ["self","most"] 6 (Zbx W1):=(DNW.e P w base mg CW (Zk0 DNW.F T)).up;have TW:=Zfh W1.good D25.F T (D17.e P w base (Zfg (C:=cW) D17.F gM mM)).up E5.up AW.up NW.up (DPW.e P w base mg CW (Zbf (W:=W1) DPW.F T E2.up E5.up b.up NW AW (show MeE P w K mg base cW "made_room" nMr 6 (Zam W1)from MeE.up (DRW.e P w base mg CW (Zk4 DRW.F))))).up d;have AM:MeE P w K mg base cM "asked" ["self","net"] 6 (Zbz W3):=MeE.up ((DAM.e P w base mg CM (Zjy DAM.F)).imp fun _ _ _ _=>ak1);have NM:MeE P w K mg base cM "needed" ["self","most"] 6 (Zbx W3):=(DNM.e P w base mg CM (Zky DNM.F)).up;have PM:=DPM.e P w base mg CM (Zbf (W:=W3) DPM.F T E2.up E5.up b.up NM AM (show MeE P w K mg base cM "made_room" nMr 6 (Zam W3)from MeE.up ((DRM.e P w base mg CM (Zk2 DRM.F (D16.e P w base (ZlV D16.F c.up E3.up E4.up b (D15.e P w base (Zmk D15.F)).up (D8.e P w base (Zmt D8.F T z12 E7)))))).imp fun _ _ _ _=>mr3)));have TM:=Zfh W3.good D25.F T (D17.e P w base (Zfg (C:=cM) D17.F gM mM)).up E5.up AM.up NM.up PM.up d;have AP:MeE P w K mg base cP "asked" ["self","net"] 6 (Zbz WP):=MeE.up (DAP.e P w base mg CP (Zk9 DAP.F E26));have NP:MeE P w K mg base cP "needed" ["self","most"] 6 (Zbx WP):=(DNP.e P w base mg CP (Zkx DNP.F)).up;have RP:MeE P w K mg base cP "made_room" nMr 6 (Zam WP):=MeE.up ((DRP.e P w base mg CP (Zk1 DRP.F (D28.e P w base (Zmp D28.F b.up E4.up (D27.e P w base (Zmb D27.F c.up E3.up E4.up)))) b.up E4.up E29.up (D30.e P w base (ZlS D30.F c.up E4.up E9.up E29.up)))).imp fun _ _ _ _=>mrF);have MP:=D17.e P w base (Zfg (C:=cP) D17.F gM mM);have AT:MeE P w K mg base cT "asked" ["self","net"] 6 (Zbz W2):=MeE.up (DAT.e P w base mg CT (ZkA DAT.F E34));have NT:MeE P w K mg base cT "needed" ["self","most"] 6 (Zbx W2):=(DNT.e P w base mg CT (Zkz DNT.F)).up;have MT:=D17.e P w base (Zfg (C:=cT) D17.F gM mM);have E47:=D47.e P w base (ZlX D47.F T GZ hbe W1' W2' neR neQ oT oP kT kP (show FnOk P w K mg base (RX.CXe P w) 9 f25 _ ["net","way"] (Zjq cT cP cM cR cQ)from FnOk.or (Zhd D25.F MT.up CT DAT.M (Zk7 (cP:=cQ) DAT.F (show GrF P w K mg base "NotTwoSided" "ring" cR from⟨⟨cTE,_,_,XCR,DIR.M.1,DIR.M.2,Zmi DIR.F XCR neR,DIR.B⟩,GZ.gR⟩) E34) DAT.B) (Zhd D25.F MP.up CP DAP.M (Zk8 (cR:=cR) DAP.F (show GrF P w K mg base "NotPlain" "pair" cQ from⟨⟨cTE,_,_,XCQ,DIQ.M.1,DIQ.M.2,Zmj DIQ.F XCQ neQ,DIQ.B⟩,GZ.gP⟩) E26) DAP.B)) D25.g D25.k D25.B (D45.e P w base (ZlW D45.F T z16 E44)).up (D46.e P w base (ZlY D46.F T z12 E44)).up);have TA:FnOk P w K mg base CX0 10 f25 _ ["net","way"] (ZjL cW cT cP cM):=(FnOk.ex fun i h=>match i,h with|0,_=>TW|1,_=>(Zfh W2.good D25.F T MT.up E5.up AT.up NT.up (DPT.e P w base mg CT (Zbf (W:=W2) DPT.F T E2.up E5.up b.up NT AT (show MeE P w K mg base cT "made_room" nMr 6 (Zam W2)from MeE.up ((DRT.e P w base mg CT (Zk3 DRT.F c)).imp fun _ _ _ _=>mr2)))).up d)|2,_=>(Zfh WP.good D25.F T MP.up E5.up AP.up NP.up (DPP.e P w base mg CP (Zbf (W:=WP) DPP.F T E2.up E5.up b.up NP AP RP)).up d)|3,_=>TM|4,_=>TM).mono (by decide);exact Zk5 D49.F T gW gT gP gM mW mT mP mM (D36.e P w base (Zmq D36.F T (D35.e P w base (Zmc D35.F T)))).up (D39.e P w base (Zkw D39.F T E37 (D38.e P w base (Zkt D38.F)))).up (D42.e P w base (Zmf D42.F T)).up E37.up (D40.e P w base (ZlU D40.F T)).up (D41.e P w base (ZlN D41.F T z16)).up E47 TA D25.g D25.k D25.B bO bk (D48.e P w base (Zmn D48.F T E44)).up
theorem walk{l:PySem.W.OpenLaw}{q:Program}{loose:List _}{XP:(Str->Option _)->Heap->Prop}{YP:World->Heap->Prop}{d:DefRec}{K:Params->PySem.W.Frag}(hn:l.most=some 63)(hdf:d.params.defaults=[])
  (hY:∀(w:World)(h:Heap),YP w h->(K w.params).In h)
  (F:∀(w:World)(mg:Str->Option _)(fa:Addr)(h:Heap),(K w.params).In h->h.Ns mainGlobals mg->mg d.name=some (.ref fa)->
   ∃fd:FuncData,(∀(s:Shared)(u:Value),BindsTo s fd ⟨[u],[]⟩ [("_law_script",u)])/\∀base:Heap,(K w.params).In base->base.Ns mainGlobals mg->FnOk l.prog w (K w.params) mg base CX0 11 fa fd ["_law_script"] (ZgD (K w.params))):
  PySem.W.WalkO q loose XP YP l.row.toRowW d [] (fun f vs=>PySem.call f vs):=
 L2.Zii hn (by decide) hdf ⟨rfl,by decide,by decide⟩ hY F (fun _ _ a c e _ b=>⟨a,c,rfl,b,e,fun _=>rfl⟩) fun _ _ _ _ _ z=>z
end My
open PySem PySem.W PyProof.Rows
namespace PySem.W.Fast
def tw6489049323083496853:=0
def tw7857886691353546861:=0
def tw14105572364007593454:=0
def tw9503337720590013330:=0
def tw4280289179302497371:=0
def tw4910987455658864919:=0
def tw14511637011115375592:=0
def tw16381550931517741739:=0
def tw17378460804082409389:=0
def tw11638456699369172398:=0
def tw17235721785499851041:=0
def tw6668903845435084158:=0
def tw11472478155577604333:=0
def tw10674376687631860216:=0
def tw4213031188772906925:=0
def tw4467368322205640174:=0
def tw3433216934240324423:=0
def tw17258488829003826830:=0
def tw6099434222076267564:=0
def tw7766839043001914517:=0
def tw14452386120674955783:=0
def tw3441800534788782871:=0
def tw4124475117389364416:=0
def tw3912319979330981899:=0
def tw4312496359950800255:=0
def tw9003212652745633649:=0
def tw12823834009616225608:=0
def tw4741789080681861525:=0
def tw4949685329536334613:=0
def tw5768278709257777257:=0
def tw7700439669690109150:=0
def tw1003213380164038982:=0
def tw300955649034186657:=0
def tw10111642612040635817:=0
def tw4200454006616759371:=0
def tw16981928551676967233:=0
def tw415443517655767569:=0
def tw16149552817269213528:=0
def tw2441934475536347799:=0
def tw18414714630388433619:=0
def tw16161542314942218970:=0
def tw4522607720555209511:=0
def tw13007098810236179284:=0
def tw12567300193289506040:=0
def tw15892060878560412608:=0
def tw973859898113406181:=0
def tw8188480058778334430:=0
def tw11816426547904360771:=0
def tw9931298597463013804:=0
def tw17612663575776751354:=0
def tw14683585019753566285:=0
def tw14208818156078355594:=0
def tw14212880273786577445:=0
def tw10092924115520053546:=0
def tw3409724908221953440:=0
def tw2004030767737201327:=0
def tw7348140278998972896:=0
def tw6257352508474480390:=0
def tw12906094068291590001:=0
def tw12704481130628615768:=0
def tw5964760676413080057:=0
def tw11795701914590226200:=0
def tw11982445104708804187:=0
def tw9172384762335815465:=0
def tw881447353603167817:=0
def tw1886068706181853310:=0
def tw16853341489476964556:=0
def tw8833120908522648807:=0
def tw5893676478915575138:=0
def tw2966512494728533119:=0
def tw1974309586167515489:=0
def tw14356271189168342287:=0
def tw14322584929565527793:=0
def tw17998531722726396844:=0
def tw7630379332136994973:=0
def tw9650517172592960124:=0
def tw1266740606612845909:=0
def tw17893386099992804271:=0
def tw9280501500915022956:=0
def tw6079281253423643894:=0
def tw12233979744024829648:=0
def tw3028441799869999430:=0
def tw2115222787066505233:=0
def tw585643342060721813:=0
def tw12463439987157730447:=0
def tw2028100060118554442:=0
def tw13459248339989654169:=0
def tw13276510421796455039:=0
def tw18317900609464625619:=0
def tw4239792304352289293:=0
def tw6942287760148775530:=0
def tw9081388236548431741:=0
def tw3643496012909946520:=0
def tw1021200204303864187:=0
def tw12091939573515580682:=0
def tw4124518912842144260:=0
def tw6480203553791019352:=0
def tw520054028042335811:=0
def tw9988249579096709467:=0
def tw1486264939516207417:=0
def tw14839398165673528696:=0
def tw739204187188191913:=0
def tw2477146147532332027:=0
def tw548246344690053856:=0
def tw16349083955555328077:=0
def tw8560190307328853230:=0
def tw4480339186041946486:=0
def tw1816556144030139489:=0
def tw5797560521240769261:=0
def tw8509656923501033784:=0
def tw983579647164966189:=0
def tw2126717080104809999:=0
def tw2714702004195335736:=0
def tw9473628264680649477:=0
def tw3959449079087564211:=0
def tw9729010018759957300:=0
def tw13232897784493836015:=0
def tw16416826390127007803:=0
def tw8464996378258042244:=0
def tw5607030697453866822:=0
def tw10709901411102385062:=0
def tw16476577120061589563:=0
def tw17073414087066554941:=0
def tw14619974613386828294:=0
def tw13273689224087125202:=0
def tw7982736227456598620:=0
def tw3181178994394455466:=0
def tw511105097995326561:=0
def tw10664645220186805533:=0
def tw1087044544065861342:=0
def tw8170233486384953814:=0
def tw2731028179531091003:=0
def tw87487694648219380:=0
def tw2979735532434308670:=0
def tw2713794092273673436:=0
def tw13704303475790737737:=0
def tw2854400832065226732:=0
def tw853726053319839731:=0
def tw10821455854364041538:=0
def tw6489083965466881931:=0
def tw6188334237585580705:=0
def tw10223769665105917069:=0
def tw17137024189037018961:=0
def tw13894903786515082917:=0
def tw8629575017869155872:=0
def tw8200672664525459845:=0
def tw11420146693473898875:=0
def tw16374171995536737170:=0
def tw3661831732952494660:=0
def tw5687640083013529825:=0
def tw3144471073904519594:=0
def tw2231515990558564617:=0
def tw17908674830002940438:=0
def tw13018561136726490846:=0
def tw15145268784055007708:=0
def tw6333523096171688386:=0
def tw12057052080803651682:=0
def tw15358219989206408192:=0
def tw11126699758522475695:=0
def tw4321792514429588321:=0
def tw3536463040592131481:=0
def tw2813852618263437274:=0
def tw11078412379282265713:=0
def tw10071758402241105834:=0
def tw2708931761533959894:=0
def tw2585812944993209999:=0
def tw1711411484834348972:=0
def tw16521298659338831123:=0
def tw4266488326649941883:=0
def tw3158592438913997313:=0
def tw1053061665762413190:=0
def tw18223935649107230353:=0
def tw11050166542808400277:=0
def tw16804391749150614193:=0
def tw10390044000061262938:=0
def tw6101409611654699895:=0
def tw12004138385421581459:=0
def tw5939158622602734882:=0
def tw12294452772240900844:=0
def tw5021521572578033423:=0
def tw9625005924719752122:=0
def tw7748881847396369695:=0
def tw5869065000432375848:=0
def tw4247965199936218554:=0
def tw5049733278275926773:=0
def tw1272024950684110687:=0
def tw16113465210849399767:=0
def tw14706046234910367725:=0
def tw1331509715502837544:=0
def tw3341688983965579473:=0
def tw18129081713330023935:=0
def tw3401148053124394033:=0
def tw3449694188055469768:=0
def tw48615238137300314:=0
def tw12464827234969490904:=0
def tw8280515174581848757:=0
def tw9493167679302709484:=0
def tw1409583211867522704:=0
def tw13789784218979643284:=0
def tw13642232030857418158:=0
def tw7551650156496542646:=0
def tw3173137339260893955:=0
def tw2841656425911321644:=0
def tw16360877135189984220:=0
def tw4427016688708651115:=0
def tw10341456709734871182:=0
def tw17813093631633680872:=0
def tw1916472367758768992:=0
def tw15440234045736456335:=0
def tw14573454924501901196:=0
def tw11821081394408531704:=0
def tw13691837725681502290:=0
def tw2788209833076950712:=0
def tw1914394775516838891:=0
def tw12403821672111195378:=0
def tw76240909115980854:=0
def tw11348587953628029568:=0
def tw9697722459594300242:=0
def tw11676914555291102366:=0
def tw3394815753898870809:=0
def tw13946409529490200784:=0
def tw10788156621472628519:=0
def tw15125449569135498047:=0
def tw516131707862395174:=0
def tw4408027699017630437:=0
def tw13532087106215591638:=0
def tw16572114006059848952:=0
def tw9247559799795546249:=0
def tw3682128474315923080:=0
def tw4207597398541465769:=0
def tw14961242044187451967:=0
def tw1401458159776323136:=0
def tw7364003807667758304:=0
def tw10704614071368585287:=0
def tw11659855702939837279:=0
def tw140698081853830038:=0
def tw1371265646286412890:=0
def tw17982579801349291583:=0
def tw10879691723418428839:=0
def tw2505460922317365389:=0
def tw11747645054284444523:=0
def tw6149284483766489420:=0
def tw15042302127326161998:=0
def tw14355923122404294634:=0
def tw13215333631570297399:=0
def tw12354981628393616498:=0
def tw1850687937954837446:=0
def tw4930941703513916213:=0
def tw9137085186431365156:=0
def tw5587962609713337176:=0
def tw6810687378007365692:=0
def tw9679850288660019458:=0
def tw4484363955474916858:=0
def tw15347766480951501072:=0
def tw11507198459927153833:=0
def tw17065124058310060020:=0
def tw1443056773671157206:=0
def tw805689345121380571:=0
def tw8941019699341940801:=0
def tw1462301118520064216:=0
def tw7088733280847519664:=0
def tw16809212603776370872:=0
def tw5114255358712986781:=0
def tw9865342534559012902:=0
def tw9269871034945431339:=0
def tw6530594882340470059:=0
def tw16691019383131676648:=0
def tw7639239143806908268:=0
def tw3320317415986009060:=0
def tw6943166307071257570:=0
def tw1785782689643741828:=0
def tw7186582510570072369:=0
def tw10002295424566575447:=0
def tw1477118610262158966:=0
def tw4071284877558024283:=0
def tw17419144443613195006:=0
def tw11355082065671181287:=0
def tw2046329820046483962:=0
def tw1507178214408114691:=0
end PySem.W.Fast
set_option maxRecDepth 100000 in
set_option maxHeartbeats 0 in
theorem PySem.Challenge.cw_tintties_k42_whole_tinted_holds : PySem.Challenge.rw_tintties_k42_whole_tinted.Holds := by
 w_on;o_law;k_head;(case hw=>w_witness2)
 k_fill
 refine My.walk (l:=PySem.Challenge.rw_tintties_k42_whole_tinted) rfl rfl (fun w h Y=>PySem.W.kIn_of Y) ?F
 case F=>
  intro w mg fa h KX G hmg;apply My.all_mk hmg
  all_goals repeat' first|(intro s v;exact .of_eq rfl)|(intro _ _ _ _ _ _ us hl;rcases us with _|⟨_,_|⟨_,_|⟨_,_|⟨_,_|⟨_,_|⟨_,_⟩⟩⟩⟩⟩⟩<;>first|rfl|(simp at hl;done))|(refine .all fun us hl=>?_;rcases us with _|⟨_,_|⟨_,_|⟨_,_|⟨_,_|⟨_,_|⟨_,_⟩⟩⟩⟩⟩⟩<;>first|rfl|(simp at hl;done))|(intro s us X hl;rw[UY]at hl⊢;rcases us with _|⟨_,_|⟨_,_|⟨_,_|⟨_,_|⟨_,_|⟨_,_⟩⟩⟩⟩⟩⟩<;>first|exact PySem.W.binds_K X rfl (by k_is) rfl rfl rfl|(simp at hl;done))|(intro s us X hl;rcases us with _|⟨_,_|⟨_,_⟩⟩<;>first|exact PySem.W.binds_K X rfl (by k_is) rfl rfl rfl|(simp at hl;done))|exact⟨fun s us ws X hl=>(match us,ws,hl with|[u0],[w0],_=>PySem.W.binds_K X rfl (by k_is) rfl rfl rfl|[],_,hl=>nomatch hl|_::_::_,_,hl=>nomatch hl|[_],[],hl=>nomatch hl|[_],_::_::_,hl=>nomatch hl),My.ZkG⟩|with_reducible refine' mg_of KX G ?_|with_reducible refine' mg_none_of KX G ?_|((with_reducible show kitOne _ _ _=_);kernel_rfl)|((with_reducible show kitCls _ _ _=_);kernel_rfl)|((with_reducible show mroIn _ _ _=_);kernel_rfl)|((with_reducible show RX.Zg1 _ _ _=_);kernel_rfl)|((with_reducible show codeHdIn _ _ _=_);kernel_rfl)|k_is|constructor
#print axioms PySem.Challenge.cw_tintties_k42_whole_tinted_holds
